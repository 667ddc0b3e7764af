"""[0.14], [0.15], [0.6], [1.3], stage 8: papers of games."""

import unittest

from joinmore.base.games import Game
from joinmore.errors import InvalidOperation
from joinmore.pay.sharings import is_kept
from joinmore.pay.verdict import are_kept_within, game_paper, is_game_paper, left_by, left_orders
from tests.cases import (
    MOST, PAIRS, PEOPLE, STEPS, all_groups, all_orders, all_tests, broken_by_hand, games, growing_games, left_by_hand, other_games,
    some_groups, strange, walked, wild,
)
from tests.refusals import refused, unchanged

ABC, ACB = ("a", "b", "c"), ("a", "c", "b")


class Examples(unittest.TestCase):
    def test_examples(self):
        told = [left_by(MOST, (("a",), "b", "c")), left_orders(PAIRS), len(left_orders(MOST)), game_paper(STEPS), is_game_paper(MOST, ("left", ("a", "b", "c"), ("a", "c"))), are_kept_within(MOST, ("a", "b"))]
        self.assertEqual(told, [(("a", "b", "c"), ("a", "c")), (), 6, ("growing",), True, True])


class LeftBy(unittest.TestCase):
    def test_each_test(self):
        for game in games() + other_games():
            wrong = broken_by_hand(game)
            for test in all_tests(game.people):
                if test not in wrong:
                    with self.assertRaises(InvalidOperation):
                        left_by(game, test)
                    continue
                group, one, other = test
                rest = tuple(person for person in game.people if person not in group + (one, other))
                expected = (group + (one, other) + rest, tuple(sorted(group + (other,))))
                told = unchanged(self, left_by, game, test)
                self.assertEqual(told, expected)
                self.assertIn(told[1], left_by_hand(game, walked(game, told[0])))
                self.assertIs(is_game_paper(game, ("left",) + told), True)

    def test_by_hand(self):
        self.assertEqual(left_by(MOST, (("b",), "a", "c")), (("b", "a", "c"), ("b", "c")))
        self.assertEqual(left_by(MOST, (("c",), "a", "b")), (("c", "a", "b"), ("b", "c")))
        worse = Game.additive(("a", "b", "c", "d"), (1, 2, 3, 4)).with_worth(("b",), 3)
        self.assertEqual(left_by(worse, ((), "b", "d")), (("b", "d", "a", "c"), ("d",)))
        self.assertEqual(left_by(worse, ((), "a", "b")), (("a", "b", "c", "d"), ("b",)))

    def test_a_gap_of_nothing_is_not_broken(self):
        with self.assertRaises(InvalidOperation):
            left_by(Game.additive(("a", "b"), (2, -1)), ((), "a", "b"))


class LeftOrders(unittest.TestCase):
    def test_all_games(self):
        for game in games() + other_games() + growing_games():
            told = unchanged(self, left_orders, game)
            expected = [order for order in all_orders(game.people) if left_by_hand(game, walked(game, order))]
            self.assertEqual(told, tuple(expected))
            self.assertIs(not told, not broken_by_hand(game))

    def test_some_orders_alone(self):
        expected = (("a", "b", "c"), ("a", "c", "b"), ("b", "a", "c"), ("c", "a", "b"))
        self.assertEqual(left_orders(PAIRS.with_worth(("a",), 3)), expected)


class Papers(unittest.TestCase):
    def test_growing_games(self):
        for game in growing_games():
            self.assertEqual(unchanged(self, game_paper, game), ("growing",))
            self.assertIs(is_game_paper(game, ("growing",)), True)
            for order in all_orders(game.people)[:12]:
                for group in all_groups(game.people):
                    self.assertIs(is_game_paper(game, ("left", order, group)), False)

    def test_other_games(self):
        for game in other_games():
            told = unchanged(self, game_paper, game)
            self.assertEqual((told.__class__, len(told), told[0]), (tuple, 3, "left"))
            self.assertIn(told[1], all_orders(game.people))
            self.assertIn(told[2], left_by_hand(game, walked(game, told[1])))
            self.assertIs(is_game_paper(game, told), True)
            self.assertIs(is_game_paper(game, ("growing",)), False)

    def test_each_order_and_group(self):
        for game in other_games():
            for order in all_orders(game.people)[:24]:
                groups = left_by_hand(game, walked(game, order))
                for group in all_groups(game.people):
                    self.assertIs(is_game_paper(game, ("left", order, group)), group in groups)

    def test_one_gap_decides(self):
        for people in PEOPLE[1:]:
            flat = Game.additive(people, tuple(range(len(people))))
            for group, one, other in all_tests(people):
                put = tuple(sorted(group + (one, other)))
                worse = flat.with_worth(put, flat[put] - 1)
                self.assertEqual(game_paper(worse)[0], "left")
                self.assertIs(is_game_paper(worse, ("left",) + left_by(worse, (group, one, other))), True)

    def test_values_that_are_none(self):
        wrong = (
            ("growing",), (), ("left",), ("left", ABC), ("left", ABC, ("a", "c"), ()), ["left", ABC, ("a", "c")], ("left", ABC, ("a", "b")),
            ("left", ABC, ("c", "a")), ("left", ABC, ["a", "c"]), ("left", list(ABC), ("a", "c")), ("left", ACB, ("a", "c")), ("left", ABC, ()),
            ("left", ABC, ABC), ("leaves", ABC, ("a", "c")), ("growing", ABC, ("a", "c")), ("left", ("a", "c"), ABC), ("left", "abc", ("a", "c")),
            ("left", ("a", "b"), ("a", "c")), ("left", ("a", "b", "b"), ("a", "c")), (("left",), ABC, ("a", "c")), (None, ABC, ("a", "c")),
            ("left", ABC, "ac"), ("left", ABC, ("a", "z")), ("left", None, None), ("left", ABC, None), ("left", None, ("a", "c")), "left",
            ("left", ABC, (("a", "c"),)), ("left", (ABC, ("a", "c"))), {"left": ABC}, (PAIRS, ABC, ("a", "c")), ("left", PAIRS, PAIRS),
        )
        for value in wrong:
            self.assertIs(is_game_paper(MOST, value), False, value)
        self.assertIs(unchanged(self, is_game_paper, MOST, ("left", ABC, ("a", "c"))), True)
        wrong = (("growing", ()), ["growing"], "growing", ("Growing",), ("growing", "growing"), (("growing",),), {"growing": 1}, (True,), ())
        for value in wrong:
            self.assertIs(is_game_paper(PAIRS, value), False, value)

    def test_values_of_all_kinds(self):
        for game in (PAIRS, MOST, wild(("k",), 1), wild(PEOPLE[-1], 2)):
            for value in strange():
                for put in (value, (value,), ("left", value, value), ("left", game.people, value), ("left", value, game.people[:1]), (value, value, value)):
                    right = isinstance(put, tuple) and len(put) == 3 and put[0] == "left" and put[1] in all_orders(game.people)
                    expected = right and put[2] in left_by_hand(game, walked(game, put[1]))
                    self.assertIs(is_game_paper(game, put), expected)


class Within(unittest.TestCase):
    def test_each_group(self):
        seen = set()
        for game in games() + other_games() + growing_games():
            for group in some_groups(game.people):
                alone = game.only(group)
                expected = all(is_kept(alone, walked(alone, order)) for order in all_orders(group))
                self.assertIs(unchanged(self, are_kept_within, game, group), expected)
                seen.add((len(group), expected))
        self.assertEqual(seen, {(1, True), (2, True), (3, True), (4, True), (5, True), (2, False), (3, False), (4, False), (5, False)})

    def test_by_hand(self):
        self.assertEqual([are_kept_within(MOST, group) for group in some_groups(MOST.people)], [True, True, False, True, True, True, True])


class Errors(unittest.TestCase):
    def test_wrong_arguments(self):
        for game in (PAIRS, MOST, wild(("a", "b"), 4), wild(PEOPLE[-1], 2)):
            refused(self, left_by, (game, all_tests(game.people)[0]), "game test")
            refused(self, left_orders, (game,), "game")
            refused(self, game_paper, (game,), "game")
            for value in (("growing",), None, [1]):
                refused(self, is_game_paper, (game, value), "game -")
            refused(self, are_kept_within, (game, game.people), "game some")


if __name__ == "__main__":
    unittest.main()
