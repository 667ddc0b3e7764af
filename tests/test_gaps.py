"""[0.8], [0.5], [1.3], stage 3: tests of games."""

import unittest

from joinmore.base.games import Game
from joinmore.base.gaps import broken, gap, is_additive, is_growing, is_growing_by, is_shrinking, is_test, tests
from joinmore.errors import InvalidGame, InvalidOperation
from tests.cases import (
    MOST, PAIRS, PEOPLE, STEPS, all_groups, all_tests, game_by, games, gap_by_hand, growing, no_games, no_groups, strange, wild,
)

ADDED = Game.additive(("a", "b", "c"), (4, -1, 2))


def no_tests(people):
    """Values that are near a test of at least three persons, and are none."""
    a, b, c = people[:3]
    return [
        ((), b, a), ((a,), c, b), ((a,), a, b), ((b,), a, b), ((c,), b, c), ((), a, a), ((a,), b, b), ((b, a), c, "zz"),
        ((), a, "zz"), ((), "A", a), (("zz",), a, b), ([], a, b), ([a], b, c), [(), a, b], [(a,), b, c], ((), a), ((), a, b, c),
        (a, b, c), (a, b), (), ((), (a, b)), (((),), a, b), ((a,), (b,), (c,)), ((), [a], [b]), ((), a, None), ((), a, 1),
        ((), True, b), (None, a, b), ((a, a), b, c), (a, ()), ((), a, b, ()), {(): 1}, ({}, a, b), ("", a, b), ((a, b, c), a, b),
    ]


class Examples(unittest.TestCase):
    def test_examples(self):
        told = [len(tests(PAIRS)), gap(PAIRS, (("a",), "b", "c")), is_growing(PAIRS), is_growing(STEPS), broken(MOST), is_shrinking(PAIRS.turned()), is_test(PAIRS, ((), "b", "a"))]
        self.assertEqual(told, [6, 2, True, True, ((("a",), "b", "c"), (("b",), "a", "c"), (("c",), "a", "b")), True, False])
        told = [is_growing_by(MOST, ("a", "b"), ("a", "c")), is_additive(Game.additive(("a", "b"), (2, -1))), gap(MOST, ((), "a", "b"))]
        self.assertEqual(told, [False, True, 4])


class Tests(unittest.TestCase):
    def test_all_tests(self):
        for people, many in zip(PEOPLE, (0, 1, 6, 24, 80)):
            found = tests(wild(people, 1))
            self.assertIsInstance(found, tuple)
            self.assertEqual(list(found), sorted(all_tests(people)))
            self.assertEqual(len(found), many)
            for test in found:
                self.assertIs(is_test(wild(people, 1), test), True)
                self.assertIs(is_test(wild(people, 1), tuple(list(test))), True)
        self.assertEqual(tests(wild(("a", "b"), 1)), (((), "a", "b"),))

    def test_just_those_that_are_tests(self):
        named = [("a", "ann", "b", "bo", "c"), ("ab", "abc", "b"), ("a", "aa", "aaa", "ab")]
        for people in list(PEOPLE) + named:
            for game in (wild(people, 4), Game.additive(people, tuple(range(len(people)))), growing(people, 3)):
                triples = [(group, one, other) for group in all_groups(people) for one in people for other in people]
                found = tests(game)
                self.assertEqual(found, tuple(sorted(triple for triple in triples if is_test(game, triple))))
                self.assertTrue(all(one < other for one, other in zip(found, found[1:])))
                self.assertEqual(tests(game), found)

    def test_values_that_are_no_test(self):
        for people in PEOPLE[2:]:
            for value in no_tests(people):
                self.assertIs(is_test(wild(people, 2), value), False, value)
                with self.assertRaises(InvalidOperation, msg=repr(value)):
                    gap(wild(people, 2), value)

    def test_values_of_all_kinds(self):
        for game in (PAIRS, wild(("k",), 1), wild(("a", "b"), 1), wild(PEOPLE[-1], 1)):
            for value in strange():
                expected = value.__class__ is tuple and value in all_tests(game.people)
                self.assertIs(is_test(game, value), expected)
                if not expected:
                    with self.assertRaises(InvalidOperation):
                        gap(game, value)

    def test_gaps(self):
        for game in games():
            for test in all_tests(game.people):
                self.assertEqual(gap(game, test), gap_by_hand(game, test))
        told = [(((), "a", "b"), 1), (((), "a", "c"), 1), (((), "b", "c"), 2), ((("a",), "b", "c"), 3), ((("b",), "a", "c"), 2), ((("c",), "a", "b"), 2)]
        for test, expected in told:
            self.assertEqual(gap(STEPS, test), expected)
        self.assertEqual([gap(MOST, test) for test in tests(MOST)], [4, 4, 4, -2, -2, -2])

    def test_the_greatest_gaps(self):
        high = 10 ** 9
        game = Game(("a", "b"), {("a",): -high, ("a", "b"): high, ("b",): -high})
        self.assertEqual(gap(game, ((), "a", "b")), 3 * high)
        self.assertIs(is_growing(game), True)
        self.assertEqual(gap(game.with_worth(("a",), high).with_worth(("b",), high), ((), "a", "b")), -high)


class Kinds(unittest.TestCase):
    def compare(self, game):
        gaps = {test: gap_by_hand(game, test) for test in sorted(all_tests(game.people))}
        self.assertEqual(broken(game), tuple(test for test in gaps if gaps[test] < 0))
        self.assertIs(is_growing(game), all(told >= 0 for told in gaps.values()))
        self.assertIs(is_shrinking(game), all(told <= 0 for told in gaps.values()))
        self.assertIs(is_additive(game), all(told == 0 for told in gaps.values()))

    def test_games(self):
        for game in games():
            self.compare(game)
            self.compare(game.turned())
            self.compare(game * 0)
        for people in PEOPLE:
            self.compare(Game.additive(people, tuple(range(-1, len(people) - 1))))

    def test_each_kind_is_true_and_false(self):
        told = (
            (PAIRS, True, False), (STEPS, True, False), (MOST, False, False), (PAIRS.turned(), False, True), (ADDED, True, True),
            (STEPS.turned(), False, True), (wild(("k",), 1), True, True),
        )
        for game, grows, shrinks in told:
            self.assertEqual([is_growing(game), is_shrinking(game), is_additive(game)], [grows, shrinks, grows and shrinks])

    def test_one_gap_decides(self):
        for people in PEOPLE[1:]:
            game = growing(people, 4)
            flat = Game.additive(people, tuple(range(len(people))))
            for test in all_tests(people):
                group, one, other = test
                put = tuple(sorted(group + (one, other)))
                self.compare(flat.with_worth(put, flat[put] + 1))
                self.compare(flat.with_worth(put, flat[put] - 1))
                self.compare(game.with_worth(put, game[put] - gap_by_hand(game, test)))
                worse = game.with_worth(put, game[put] - gap_by_hand(game, test) - 1)
                self.compare(worse)
                self.assertIn(test, broken(worse))

    def test_the_order_of_the_questions_has_no_effect(self):
        for people in PEOPLE:
            for seed in (1, 6):
                calls = (is_growing, broken, is_shrinking, is_additive, tests)
                first = [call(wild(people, seed)) for call in calls]
                game = wild(people, seed)
                self.assertEqual([call(game) for call in calls], first)
                self.assertEqual([call(game) for call in calls[::-1]], first[::-1])
                # A game that is made of one that was asked has its own answers.
                for group in all_groups(people)[1:]:
                    self.compare(game.with_worth(group, game[group] + 40))
                self.compare(game + growing(people, 2))
                self.compare(game * 3)
                self.assertEqual([call(game) for call in calls], first)
                self.assertEqual(game, wild(people, seed))

    def test_broken_tests_ascend(self):
        for people in PEOPLE:
            for seed in range(5):
                found = broken(wild(people, seed))
                self.assertIsInstance(found, tuple)
                self.assertEqual(list(found), sorted(found))
        self.assertEqual(broken(PAIRS), ())
        expected = (((), "a", "b"), ((), "a", "c"), ((), "b", "c"), (("a",), "b", "c"), (("b",), "a", "c"), (("c",), "a", "b"))
        self.assertEqual(broken(PAIRS.turned()), expected)
        self.assertEqual(broken(PAIRS.with_worth(("a", "b"), -1)), (((), "a", "b"),))


class GrowingBy(unittest.TestCase):
    def test_pairs_of_groups(self):
        seen = set()
        for game in games() + [PAIRS.turned(), ADDED]:
            if len(game) > 4:
                continue
            for one in all_groups(game.people):
                for other in all_groups(game.people):
                    both = tuple(sorted(set(one) | set(other)))
                    shared = tuple(sorted(set(one) & set(other)))
                    expected = game[both] + game[shared] >= game[one] + game[other]
                    self.assertIs(is_growing_by(game, one, other), expected)
                    seen.add(expected)
                    if set(one) <= set(other):
                        self.assertIs(is_growing_by(game, one, other), True)
        self.assertEqual(seen, {True, False})

    def test_by_hand(self):
        self.assertIs(is_growing_by(MOST, ("a", "b"), ("b", "c")), False)
        self.assertIs(is_growing_by(MOST, ("a", "b"), ("c",)), True)
        self.assertIs(is_growing_by(MOST, ("a",), ("a", "b")), True)
        self.assertIs(is_growing_by(PAIRS, ("a", "b"), ("a", "c")), True)
        self.assertIs(is_growing_by(PAIRS.turned(), ("a", "b"), ("a", "c")), False)
        self.assertIs(is_growing_by(PAIRS.turned(), (), ("a", "c")), True)

    def test_one_person_of_each_side(self):
        game = game_by(("a", "b", "c", "d"), lambda group: 3 if len(group) == 3 else 0)
        self.assertIs(is_growing_by(game, ("a", "b", "c"), ("b", "c", "d")), False)
        self.assertIs(is_growing_by(game, ("a", "b"), ("b", "c")), True)


class Errors(unittest.TestCase):
    def test_no_game(self):
        for value in no_games():
            for call in (tests, broken, is_growing, is_shrinking, is_additive):
                with self.assertRaises(InvalidGame):
                    call(value)
            for second in (((), "a", "b"), None, 3, [1]):
                for call in (is_test, gap):
                    with self.assertRaises(InvalidGame):
                        call(value, second)
                with self.assertRaises(InvalidGame):
                    is_growing_by(value, second, second)
            with self.assertRaises(InvalidGame):
                is_growing_by(value, ("a",), ("b",))

    def test_no_group(self):
        for game in (PAIRS, wild(("k",), 1), wild(PEOPLE[-1], 2)):
            for value in no_groups(game.people):
                for one, other in ((value, ()), (value, game.people), (game.people, value), ((), value), (value, value)):
                    with self.assertRaises(InvalidOperation, msg=repr(value)):
                        is_growing_by(game, one, other)

    def test_games_are_not_changed(self):
        game = wild(("a", "b", "c"), 9)
        before = [game[group] for group in game.groups]
        first = [tests(game), broken(game), is_growing(game), is_shrinking(game), is_additive(game)]
        self.assertEqual([tests(game), broken(game), is_growing(game), is_shrinking(game), is_additive(game)], first)
        self.assertEqual([game[group] for group in game.groups], before)


if __name__ == "__main__":
    unittest.main()
