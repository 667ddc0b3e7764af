"""[0.4], [0.18], stage 2: games that are made of games."""

import unittest

from joinmore.base.games import Game
from joinmore.errors import InvalidGame, InvalidNumber, InvalidOperation
from tests.cases import MOST, PAIRS, PEOPLE, STEPS, all_groups, game_by, games, growing, some_groups, strange, wild, worths_of

HIGH = 10 ** 9
ONE = Game(("d",), {("d",): 5})


class Changing(unittest.TestCase):
    def left_alone(self, game, call):
        """What a call returns; the game before it stays as it is."""
        before = worths_of(game, game.people), game.people, game.groups
        result = call(game)
        self.assertEqual((worths_of(game, game.people), game.people, game.groups), before)
        return result

    def refused(self, error, call, *arguments):
        with self.assertRaises(error, msg=repr(arguments)) as caught:
            call(*arguments)
        return caught.exception


class WithWorth(Changing):
    def test_one_group_has_another_worth(self):
        for game in games():
            for group in some_groups(game.people):
                for worth in (0, 17, HIGH, -HIGH):
                    other = self.left_alone(game, lambda old: old.with_worth(group, worth))
                    self.assertEqual(worths_of(other, game.people), {**worths_of(game, game.people), group: worth})
                    self.assertIsInstance(other, Game)
                    self.assertEqual(other.people, game.people)

    def test_groups_that_are_none(self):
        groups = some_groups(PAIRS.people)
        for group in strange() + [(), "a", ["a"], ("b", "a"), ("d",), ("a", "a")]:
            if group not in groups:
                for worth in (1, True, HIGH + 1, "x"):
                    self.refused(InvalidOperation, PAIRS.with_worth, group, worth)

    def test_worths_that_are_none(self):
        for worth in (HIGH + 1, -HIGH - 1, 10 ** 60, -10 ** 99, True, False, None, "1", (1,), [1], {}, STEPS):
            error = self.refused(InvalidNumber, PAIRS.with_worth, ("a",), worth)
            self.assertEqual(error.value, worth)
            self.assertIs(error.value.__class__, worth.__class__)


class Only(Changing):
    def test_the_game_of_a_group(self):
        for game in games():
            for group in some_groups(game.people):
                alone = self.left_alone(game, lambda old: old.only(group))
                self.assertIsInstance(alone, Game)
                self.assertEqual(alone.people, group)
                self.assertEqual(worths_of(alone, group), {part: game[part] for part in some_groups(group)})
            self.assertEqual(game.only(game.people), game)

    def test_groups_that_are_none(self):
        groups = some_groups(PAIRS.people)
        for group in strange() + [(), "a", ["a", "b"], ("b", "a"), ("a", "d")]:
            if group not in groups:
                self.refused(InvalidOperation, PAIRS.only, group)


class Renamed(Changing):
    def compare(self, game, names):
        passed = dict(names)
        other = self.left_alone(game, lambda old: old.renamed(passed))
        self.assertEqual(list(passed.items()), list(names.items()))
        self.assertEqual(other.people, tuple(sorted(names.get(person, person) for person in game.people)))
        for group in all_groups(game.people):
            named = tuple(sorted(names.get(person, person) for person in group))
            self.assertEqual(other[named], game[group])
        return other

    def test_no_name(self):
        for game in games():
            self.assertEqual(self.compare(game, {}), game)

    def test_one_name(self):
        for game in games():
            for person in game.people:
                for name in ("aa", "bobby", "q", "zz", person):
                    self.compare(game, {person: name})
        self.assertEqual(PAIRS.renamed({"a": "z"}).people, ("b", "c", "z"))

    def test_two_exchanged(self):
        for game in games():
            for one in game.people:
                for other in game.people:
                    if one != other:
                        self.compare(game, {one: other, other: one})
        self.assertEqual(STEPS.renamed({"a": "c", "c": "a"})["a",], 2)

    def test_all_turned_round(self):
        for people in PEOPLE:
            game = wild(people, 6)
            round_about = {people[at - 1]: people[at] for at in range(len(people))}
            self.compare(game, round_about)
            self.assertEqual(game.renamed(round_about).renamed({value: key for key, value in round_about.items()}), game)
            self.compare(game, {person: "xyzuvw"[at] * 8 for at, person in enumerate(people)})

    def test_a_later_change_of_the_dict_has_no_effect(self):
        names = {"a": "z"}
        game = PAIRS.renamed(names)
        names["a"] = "q"
        self.assertEqual(game.people, ("b", "c", "z"))

    def test_two_that_would_have_one_name(self):
        for names in ({"a": "b"}, {"a": "z", "b": "z"}, {"a": "c", "b": "a"}, {"a": "b", "b": "c"}, {"a": "x", "b": "x", "c": "x"}):
            self.refused(InvalidOperation, PAIRS.renamed, names)

    def test_dicts_that_are_none(self):
        for key in ("d", "", "A", "ab", 1, None, True, ("a",), (), (("a",), 1)):
            self.refused(InvalidOperation, PAIRS.renamed, {key: "z"})
            self.refused(InvalidOperation, PAIRS.renamed, {"a": "q", key: "z"})
        for name in ("", "A", "a b", "abcdefghi", "a1", 1, None, True, ("a",), ["z"], {}, PAIRS):
            self.refused(InvalidOperation, PAIRS.renamed, {"a": name})
            self.refused(InvalidOperation, PAIRS.renamed, {"b": "y", "a": name})
        for value in strange():
            if value != {}:
                if value == {"a": 1} or value.__class__ is not dict:
                    self.refused(InvalidOperation, PAIRS.renamed, value)
        for value in ((("a", "z"),), [("a", "z")], [], (), "az", None):
            self.refused(InvalidOperation, PAIRS.renamed, value)


class Turned(Changing):
    def test_what_the_others_leave(self):
        for game in games():
            turned = self.left_alone(game, lambda old: old.turned())
            self.assertIsInstance(turned, Game)
            self.assertEqual(turned.people, game.people)
            for group in all_groups(game.people):
                others = tuple(person for person in game.people if person not in group)
                self.assertEqual(turned[group], game[game.people] - game[others])
            self.assertEqual(turned.turned(), game)
        self.assertEqual(MOST.turned()["a",], 2)

    def test_bounds(self):
        people = ("a", "b")
        just = Game(people, {("a",): -HIGH // 2, ("b",): 0, people: HIGH // 2})
        self.assertEqual(just.turned()["b",], HIGH)
        just = Game(people, {("a",): 0, ("b",): HIGH // 2, people: -HIGH // 2})
        self.assertEqual(just.turned()["a",], -HIGH)
        self.refused(InvalidGame, Game(people, {("a",): -HIGH // 2 - 1, ("b",): 0, people: HIGH // 2}).turned)
        self.refused(InvalidGame, Game(people, {("a",): 0, ("b",): HIGH // 2 + 1, people: -HIGH // 2}).turned)
        self.refused(InvalidGame, Game(people, {("a",): 0, ("b",): -1, people: HIGH}).turned)
        self.assertEqual(Game(people, {("a",): 0, ("b",): 0, people: HIGH}).turned()["a",], HIGH)


class Summed(Changing):
    def test_worths_of_both(self):
        for people in PEOPLE:
            one, other = wild(people, 1), growing(people, 9)
            both = self.left_alone(one, lambda old: old + other)
            self.assertEqual(both, self.left_alone(other, lambda old: one + old))
            self.assertIsInstance(both, Game)
            for group in all_groups(people):
                self.assertEqual(both[group], one[group] + other[group])
            self.assertEqual(one + one, one * 2)
        self.assertEqual((PAIRS + STEPS)["a", "c"], 6)

    def test_other_persons(self):
        others = [ONE, PAIRS.only(("a", "b")), PAIRS.renamed({"c": "d"}), PAIRS.beside(ONE), PAIRS.renamed({"a": "z"})]
        for other in others:
            self.refused(InvalidOperation, lambda: PAIRS + other)
            self.refused(InvalidOperation, lambda: other + PAIRS)

    def test_no_game(self):
        for value in strange() + [PAIRS.people, {group: PAIRS[group] for group in some_groups(PAIRS.people)}]:
            if value not in (MOST, PAIRS):
                self.refused(InvalidOperation, lambda: PAIRS + value)

    def test_bounds(self):
        half = HIGH // 2
        for sign in (1, -1):
            one = Game(("a",), {("a",): sign * half})
            self.assertEqual((one + one)["a",], sign * HIGH)
            more = Game(("a",), {("a",): sign * (half + 1)})
            self.refused(InvalidGame, lambda: one + more)
            self.refused(InvalidGame, lambda: more + one)
        for group in some_groups(("a", "b")):
            high = game_by(("a", "b"), lambda part: HIGH if part == group else 0)
            self.refused(InvalidGame, lambda: high + game_by(("a", "b"), lambda part: 1))
            self.assertEqual((high + game_by(("a", "b"), lambda part: -1))[group], HIGH - 1)


class Multiplied(Changing):
    def test_times_integers(self):
        for game in games():
            for many in (0, 1, 2, 3, 1000):
                other = self.left_alone(game, lambda old: old * many)
                self.assertIsInstance(other, Game)
                self.assertEqual(other.people, game.people)
                for group in all_groups(game.people):
                    self.assertEqual(other[group], game[group] * many)
            self.assertEqual(game * 1, game)

    def test_numbers_that_are_none(self):
        for many in (-1, -7, -10 ** 59, 10 ** 60, -10 ** 60, 10 ** 99, True, False, None, "2", "", (2,), [2], {}, PAIRS):
            error = self.refused(InvalidNumber, lambda: STEPS * many)
            self.assertEqual(error.value, many)
            self.assertIs(error.value.__class__, many.__class__)
        for value in strange():
            if not (value.__class__ is int and value in (0, 1, 7)):
                self.assertEqual(self.refused(InvalidNumber, lambda: STEPS * value).value, value)

    def test_bounds(self):
        for sign in (1, -1):
            self.assertEqual((Game(("a",), {("a",): sign * HIGH // 2}) * 2)["a",], sign * HIGH)
            self.refused(InvalidGame, lambda: Game(("a",), {("a",): sign * (HIGH // 2 + 1)}) * 2)
            self.assertEqual((Game(("a",), {("a",): sign}) * HIGH)["a",], sign * HIGH)
            self.refused(InvalidGame, lambda: Game(("a",), {("a",): sign}) * (HIGH + 1))
            self.refused(InvalidGame, lambda: Game(("a",), {("a",): sign}) * (10 ** 60 - 1))

    def test_great_integers_that_break_no_bound(self):
        nothing = Game(("a",), {("a",): 0})
        self.assertEqual(nothing * (10 ** 60 - 1), nothing)
        self.assertEqual(self.refused(InvalidNumber, lambda: nothing * 10 ** 60).value, 10 ** 60)


class Beside(Changing):
    def test_worths_of_both_parts(self):
        pairs = (
            (PAIRS, ONE), (ONE, PAIRS), (wild(("b", "d"), 1), wild(("a", "c", "e"), 2)), (wild(("e",), 1), wild(("a", "b", "c", "d"), 5)),
            (ONE, wild(("e",), 3)), (growing(("ann", "z"), 2), growing(("b",), 4)),
        )
        for one, other in pairs:
            both = self.left_alone(one, lambda old: old.beside(other))
            self.assertEqual(both, self.left_alone(other, lambda old: one.beside(old)))
            self.assertIsInstance(both, Game)
            self.assertEqual(both.people, tuple(sorted(one.people + other.people)))
            for group in all_groups(both.people):
                here = tuple(person for person in group if person in one.people)
                there = tuple(person for person in group if person in other.people)
                self.assertEqual(both[group], one[here] + other[there])
            self.assertEqual((both.only(one.people), both.only(other.people)), (one, other))

    def test_no_game(self):
        for value in strange() + [PAIRS.people]:
            if value not in (MOST, PAIRS, Game(("z",), {("z",): 4})):
                self.refused(InvalidGame, PAIRS.beside, value)

    def test_a_common_person(self):
        for other in (PAIRS, STEPS, PAIRS.only(("c",)), PAIRS.only(("a", "b")), wild(("a", "z"), 1), wild(("c", "d"), 1)):
            self.refused(InvalidOperation, PAIRS.beside, other)
            self.refused(InvalidOperation, other.beside, PAIRS)

    def test_more_than_five(self):
        self.assertEqual(len(PAIRS.beside(wild(("x", "y"), 1))), 5)
        self.refused(InvalidOperation, PAIRS.beside, wild(("x", "y", "z"), 1))
        self.refused(InvalidOperation, wild(("x", "y", "z"), 1).beside, PAIRS)
        self.refused(InvalidOperation, wild(PEOPLE[-1], 1).beside, wild(("z",), 1))

    def test_bounds_come_behind_the_persons(self):
        half = HIGH // 2
        for sign in (1, -1):
            one, other = Game(("a",), {("a",): sign * half}), Game(("b",), {("b",): sign * half})
            self.assertEqual(one.beside(other)["a", "b"], sign * HIGH)
            more = Game(("b",), {("b",): sign * (half + 1)})
            self.refused(InvalidGame, one.beside, more)
            self.refused(InvalidGame, more.beside, one)
            high = Game(("a",), {("a",): sign * HIGH})
            self.refused(InvalidOperation, high.beside, high)
            many = game_by(("b", "c", "d", "e", "f"), lambda group: sign * HIGH)
            self.refused(InvalidOperation, high.beside, many)


if __name__ == "__main__":
    unittest.main()
