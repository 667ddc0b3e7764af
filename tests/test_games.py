"""[0.1], [0.2], [0.4], [0.7], stage 2: games, how they are made, asked and compared."""

import unittest

from joinmore.base import games as module
from joinmore.base.games import Game
from joinmore.errors import InvalidGame, InvalidOperation
from tests.cases import MOST, PAIRS, PEOPLE, STEPS, all_groups, game_by, games, growing, some_groups, strange, wild, worths_by

BAD_PEOPLE = (
    (), ("a", "b", "c", "d", "e", "f"), ("b", "a"), ("a", "a"), ("a", "b", "b"), ("a", "c", "b"), ["a", "b"], ["a"],
    ("A", "b"), ("a", "B"), ("a", ""), ("", "a"), ("a", "b c"), ("a", "abcdefghi"), ("a1",), ("a", None), (None,),
    (1,), (True,), (("a",),), (["a"],), ("a", 1), (1, "a"), ("a", ["b"]), "a", "ab", None, True, 3, {"a": 1},
    {"a": 1, "b": 2}, PAIRS,
)


class Making(unittest.TestCase):
    def test_examples(self):
        told = [PAIRS.people, PAIRS["a", "b"], PAIRS[()], len(PAIRS), "c" in PAIRS, str(STEPS), STEPS.only(("b", "c"))["b", "c"], MOST.turned()["a",]]
        self.assertEqual(told, [("a", "b", "c"), 2, 0, 3, True, "game of 3 persons, 9 in all", 5, 2])
        told = [(PAIRS + STEPS)["a", "c"], (PAIRS * 3)["a", "b", "c"], Game.additive(("a", "b"), (2, -1))["a", "b"], PAIRS.renamed({"a": "z"}).people, PAIRS.turned().turned() == PAIRS]
        self.assertEqual(told, [6, 18, 1, ("b", "c", "z"), True])
        told = [PAIRS.beside(Game(("d",), {("d",): 5}))["a", "b", "d"], PAIRS.with_worth(("a",), 4)["a",], len(PAIRS.groups), [person for person in STEPS]]
        self.assertEqual(told, [7, 4, 8, ["a", "b", "c"]])

    def test_bounds(self):
        self.assertEqual((module.MAX_PEOPLE, module.MAX_WORTH), (5, 10 ** 9))

    def test_one_to_five_persons(self):
        for people in PEOPLE:
            worths = worths_by(people, lambda group: 10 * len(group) - ord(group[0][0]))
            game = Game(people, worths)
            self.assertEqual(game.people, people)
            self.assertEqual(len(game), len(people))
            self.assertEqual({group: game[group] for group in worths}, worths)
            self.assertEqual(game[()], 0)

    def test_people_that_are_none(self):
        for people in BAD_PEOPLE:
            for worths in ({}, {("a",): 1}, {("a",): 1, ("a", "b"): 2, ("b",): 3}, {("a",): 1, ("b",): 3, ("b", "a"): 2}):
                with self.assertRaises(InvalidGame, msg=repr(people)):
                    Game(people, worths)
        six = ("a", "b", "c", "d", "e", "f")
        with self.assertRaises(InvalidGame):
            Game(six, worths_by(six, len))

    def test_people_of_other_kinds_with_their_own_worths(self):
        for people in (("b", "a"), ("a", "b c"), ("A", "b"), ("a", "abcdefghi"), ("a", "")):
            with self.assertRaises(InvalidGame):
                Game(people, worths_by(people, len))
            with self.assertRaises(InvalidGame):
                Game(people, worths_by(tuple(sorted(people)), len))

    def test_worths_that_are_none(self):
        people = ("a", "b")
        right = {("a",): 1, ("a", "b"): 2, ("b",): 3}
        Game(people, right)
        for group in right:
            with self.assertRaises(InvalidGame):
                Game(people, {other: right[other] for other in right if other != group})
        for key in ((), ("b", "a"), ("c",), ("a", "c"), ("a", "a"), "a", "ab", 1, None, (1,), ("a", "b", "c"), ((),)):
            with self.assertRaises(InvalidGame, msg=repr(key)):
                Game(people, {**right, key: 0})
            with self.assertRaises(InvalidGame, msg=repr(key)):
                Game(people, {("a",): 1, ("b",): 3, key: 0})
        for value in strange():
            with self.assertRaises(InvalidGame):
                Game(people, value)
        with self.assertRaises(InvalidGame):
            Game(people, list(right.items()))

    def test_the_group_of_nobody_has_no_worth_in_the_dict(self):
        with self.assertRaises(InvalidGame):
            Game(("a",), {(): 0, ("a",): 1})
        with self.assertRaises(InvalidGame):
            Game(("a",), {(): 0})
        with self.assertRaises(InvalidGame):
            Game(("a",), {})

    def test_each_worth_is_an_integer_within_the_bounds(self):
        people = ("a", "b", "c")
        for group in some_groups(people):
            for worth in (10 ** 9, -10 ** 9):
                game = Game(people, {**worths_by(people, len), group: worth})
                self.assertEqual(game[group], worth)
            for worth in (10 ** 9 + 1, -10 ** 9 - 1, 10 ** 60, -10 ** 99, True, False, None, "1", "", (1,), [1], {}, PAIRS):
                with self.assertRaises(InvalidGame, msg=repr(worth)):
                    Game(people, {**worths_by(people, len), group: worth})

    def test_the_order_of_the_dict_has_no_effect(self):
        for people in PEOPLE:
            worths = worths_by(people, lambda group: len(group) * 7 - 3)
            turned = {group: worths[group] for group in reversed(list(worths))}
            one, other = Game(people, worths), Game(people, turned)
            self.assertTrue(one == other)
            self.assertEqual(one.groups, other.groups)
            self.assertEqual(str(one), str(other))

    def test_the_passed_dict_is_not_kept_and_not_changed(self):
        worths = {("b",): 3, ("a", "b"): 2, ("a",): 1}
        game = Game(("a", "b"), worths)
        self.assertEqual(list(worths.items()), [(("b",), 3), (("a", "b"), 2), (("a",), 1)])
        worths[("a",)] = 50
        del worths[("b",)]
        worths[("z",)] = 1
        self.assertEqual([game["a",], game["b",], game["a", "b"]], [1, 3, 2])
        self.assertEqual(game.groups, ((), ("a",), ("a", "b"), ("b",)))
        self.assertEqual(game, Game(("a", "b"), {("a",): 1, ("a", "b"): 2, ("b",): 3}))


class Additive(unittest.TestCase):
    def test_sums(self):
        for people in PEOPLE:
            amounts = tuple((-3) ** at for at in range(len(people)))
            game = Game.additive(people, amounts)
            self.assertEqual(game.people, people)
            for group in all_groups(people):
                self.assertEqual(game[group], sum(amounts[people.index(person)] for person in group))

    def test_it_is_a_game(self):
        game = Game.additive(("a", "b"), (2, -1))
        self.assertIsInstance(game, Game)
        self.assertEqual(game, Game(("a", "b"), {("a",): 2, ("a", "b"): 1, ("b",): -1}))

    def test_people_that_are_none(self):
        for people in BAD_PEOPLE:
            for amounts in ((), (1,), (1, 2), (1, 2, 3), (1, 2, 3, 4, 5, 6)):
                with self.assertRaises(InvalidGame, msg=repr(people)):
                    Game.additive(people, amounts)
        for value in strange():
            if value not in (("a",), ("z",)):
                with self.assertRaises(InvalidGame):
                    Game.additive(value, (1,))

    def test_amounts_that_are_none(self):
        for amounts in ((), (1,), (1, 2, 3), [1, 2], {0: 1, 1: 2}, (True, 1), (1, False), ("1", 2), (None, 1), ((1,), 2), (1, [2]), None, 1, "12", (10 ** 60, -10 ** 60), (10 ** 60, 0), PAIRS):
            with self.assertRaises(InvalidGame, msg=repr(amounts)):
                Game.additive(("a", "b"), amounts)
        for value in strange():
            with self.assertRaises(InvalidGame):
                Game.additive(("a", "b"), value)

    def test_bounds(self):
        self.assertEqual(Game.additive(("a", "b"), (10 ** 9, -10 ** 9))["a", "b"], 0)
        self.assertEqual(Game.additive(("a", "b"), (5 * 10 ** 8, 5 * 10 ** 8))["a", "b"], 10 ** 9)
        self.assertEqual(Game.additive(("a", "b"), (-5 * 10 ** 8, -5 * 10 ** 8))["a", "b"], -10 ** 9)
        far = (
            (10 ** 9, 1), (-10 ** 9, -1), (10 ** 9 + 1, -1), (-1, 10 ** 9 + 1), (10 ** 9 + 1, -10 ** 9 - 1),
            (5 * 10 ** 8 + 1, 5 * 10 ** 8), (-5 * 10 ** 8 - 1, -5 * 10 ** 8),
        )
        for amounts in far:
            with self.assertRaises(InvalidGame):
                Game.additive(("a", "b"), amounts)

    def test_a_sum_within_the_game_can_be_beyond_the_bounds(self):
        with self.assertRaises(InvalidGame):
            Game.additive(("a", "b", "c"), (10 ** 9, 1, -1))


class Asking(unittest.TestCase):
    def test_groups(self):
        self.assertEqual(PAIRS.groups, ((), ("a",), ("a", "b"), ("a", "b", "c"), ("a", "c"), ("b",), ("b", "c"), ("c",)))
        for people in PEOPLE:
            self.assertEqual(wild(people, 1).groups, tuple(all_groups(people)))

    def test_worths(self):
        for game, worths in ((PAIRS, (0, 0, 2, 6, 2, 0, 2, 0)), (STEPS, (0, 1, 3, 9, 4, 1, 5, 2)), (MOST, (0, 0, 4, 6, 4, 0, 4, 0))):
            self.assertEqual(tuple(game[group] for group in game.groups), worths)
        for people in PEOPLE:
            self.assertEqual(wild(people, 3)[()], 0)
            self.assertEqual(wild(people, 3)[tuple(list(people))], wild(people, 3)[people])

    def test_values_that_are_no_group(self):
        groups = all_groups(PAIRS.people)
        for value in strange():
            if value in groups:
                self.assertEqual(PAIRS[value], 0 if len(value) < 2 else 2)
            else:
                with self.assertRaises(InvalidOperation):
                    PAIRS[value]
        wrong = (
            "a", ["a"], ["a", "b"], [], ("b", "a"), ("a", "c", "b"), ("z",), ("a", "z"), ("a", "a"), ("a", "b", "b"),
            None, 0, True, {"a": 1}, (("a",),), ("a", ["b"]), ("a", 1), ("ab",), slice(0, 1), "", {},
        )
        for value in wrong:
            with self.assertRaises(InvalidOperation, msg=repr(value)):
                PAIRS[value]

    def test_persons(self):
        for game in games():
            for person in game.people:
                self.assertIs(person in game, True)
            for value in strange():
                self.assertIs(value in game, value.__class__ is str and value in list(game.people))
        self.assertIs("d" in PAIRS, False)
        self.assertIs("" in PAIRS, False)
        self.assertIs("ab" in PAIRS, False)
        self.assertIs(("a",) in PAIRS, False)
        self.assertIs(["a"] in PAIRS, False)

    def test_length_text_and_iteration(self):
        for people in PEOPLE:
            game = wild(people, 4)
            self.assertEqual(len(game), len(people))
            self.assertEqual(str(game), f"game of {len(people)} persons, {game[people]} in all")
            self.assertEqual([person for person in game], list(people))
            self.assertEqual(tuple(game), people)
        self.assertEqual(str(Game(("k",), {("k",): -7})), "game of 1 persons, -7 in all")


class Comparing(unittest.TestCase):
    def check(self, one, other, equal):
        self.assertIs(one == other, equal)
        self.assertIs(one != other, not equal)

    def test_equal_games(self):
        for people in PEOPLE:
            self.check(wild(people, 2), wild(people, 2), True)
        self.check(PAIRS, PAIRS, True)
        self.check(Game.additive(("a",), (3,)), Game(("a",), {("a",): 3}), True)

    def test_one_worth_other(self):
        worths = {group: PAIRS[group] for group in some_groups(PAIRS.people)}
        for group in worths:
            other = Game(PAIRS.people, {**worths, group: worths[group] + 1})
            self.check(PAIRS, other, False)
            self.check(other, PAIRS, False)

    def test_one_name_other(self):
        self.check(game_by(("a", "b"), len), game_by(("a", "c"), len), False)
        self.check(game_by(("a", "b"), len), game_by(("ab",), len), False)
        self.check(game_by(("a", "b"), len), game_by(("a", "b", "c"), len), False)

    def test_other_kinds(self):
        for value in strange():
            self.check(STEPS, value, False)
            self.check(value, STEPS, False)
        self.check(STEPS, STEPS.people, False)
        self.check(STEPS, [STEPS], False)
        self.check(STEPS, {group: STEPS[group] for group in some_groups(STEPS.people)}, False)

    def test_games_do_not_change(self):
        game = growing(("a", "b", "c"), 2)
        before = [(group, game[group]) for group in game.groups]
        other = growing(("d",), 1)
        game.with_worth(("a",), 5), game.only(("a", "b")), game.renamed({"a": "q"}), game.turned()
        game + game, game * 2, game.beside(other), game == other, str(game), list(game)
        self.assertEqual([(group, game[group]) for group in game.groups], before)
        self.assertEqual(game.people, ("a", "b", "c"))


if __name__ == "__main__":
    unittest.main()
