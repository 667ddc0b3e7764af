"""[14.1] to [14.3], [0.1], [0.4], stage 14: fair shares, dividends, and games told back."""

import random
import unittest
from fractions import Fraction
from math import gcd

from joinmore.base.games import Game
from joinmore.base.gaps import is_growing
from joinmore.errors import InvalidGame, InvalidOperation
from joinmore.more.fair import by_dividends, dividends, fair, fair_sharing, is_told_back, told_back
from joinmore.pay.pays import pays
from tests.cases import (
    MOST, PAIRS, PEOPLE, STEPS, all_groups, all_orders, broken_by_hand, by_size, dividends_by_hand, fair_by_hand, forced_kept, games,
    growing_games, high_games, is_row_by_hand, left_by_hand, no_people, no_rows, other_games, share_by_hand, small_growing, some_groups,
    some_kept, strange, walked, wild,
)
from tests.refusals import raised, refused, unchanged

HIGH = 10 ** 9


def all_games():
    return games() + growing_games() + other_games()


class Fair(unittest.TestCase):
    def test_by_all_orders(self):
        for game in all_games():
            told = unchanged(self, fair, game)
            self.assertEqual((told.__class__, len(told)), (tuple, len(game)))
            for share in told:
                self.assertEqual((share.__class__, len(share)), (tuple, 2))
                self.assertTrue(all(number.__class__ is int for number in share))
                self.assertTrue(share[1] >= 1 and gcd(*share) == 1)
            self.assertEqual([Fraction(*share) for share in told], fair_by_hand(game))

    def test_sharings(self):
        seen = set()
        for game in all_games():
            told = unchanged(self, fair_sharing, game)
            self.assertEqual((told.__class__, len(told), told[0].__class__, told[1].__class__), (tuple, 2, int, tuple))
            many, sharing = told
            self.assertTrue(all(share.__class__ is int for share in sharing))
            self.assertEqual([Fraction(share, many) for share in sharing], fair_by_hand(game))
            self.assertTrue(many >= 1)
            self.assertEqual(gcd(many, *sharing), 1)
            self.assertEqual(sum(sharing), many * game[game.people])
            seen.add(many)
        self.assertTrue({1, 2, 3, 6} <= seen)

    def test_they_are_kept_in_growing_games(self):
        for game in growing_games() + small_growing():
            shares = fair_by_hand(game)
            for group in all_groups(game.people):
                self.assertTrue(sum(share for person, share in zip(game.people, shares) if person in group) >= game[group])
            many, sharing = fair_sharing(game)
            self.assertTrue(all(share_by_hand(game, sharing, group) >= many * game[group] for group in all_groups(game.people)))

    def test_they_need_not_be_kept_in_other_games(self):
        # [0.17]: there is a game with a kept sharing whose fair one is not kept.
        game = Game(("a", "b", "c"), {("a",): 0, ("a", "b"): 1, ("a", "b", "c"): 1, ("a", "c"): 1, ("b",): 0, ("b", "c"): 0, ("c",): 0})
        self.assertEqual(left_by_hand(game, (1, 0, 0)), [])
        self.assertEqual(fair(game), ((2, 3), (1, 6), (1, 6)))
        self.assertTrue(Fraction(2, 3) + Fraction(1, 6) < game["a", "b"])

    def test_by_dividends(self):
        for game in all_games():
            told = dividends_by_hand(game)
            by_parts = [sum(Fraction(told[group], len(group)) for group in told if person in group) for person in game.people]
            self.assertEqual([Fraction(*share) for share in fair(game)], by_parts)

    def test_simple_games(self):
        self.assertEqual(fair(Game(("k",), {("k",): -7})), ((-7, 1),))
        self.assertEqual(fair_sharing(Game.additive(("a", "b"), (3, -4))), (1, (3, -4)))
        self.assertEqual(fair(by_size(PEOPLE[-1], [0, 0, 0, 0, 0, 1])), ((1, 5),) * 5)
        self.assertEqual(fair_sharing(by_size(PEOPLE[3], [0, 0, 0, 0, 2])), (2, (1, 1, 1, 1)))
        self.assertEqual(fair(Game.additive(PEOPLE[-1], (0,) * 5)), ((0, 1),) * 5)


class Dividends(unittest.TestCase):
    def test_all_groups(self):
        for game in all_games():
            told = unchanged(self, dividends, game)
            self.assertEqual(told.__class__, dict)
            self.assertEqual(list(told), some_groups(game.people))
            self.assertEqual(told, dividends_by_hand(game))
            self.assertTrue(all(number.__class__ is int for number in told.values()))
            for group in some_groups(game.people):
                self.assertEqual(sum(told[part] for part in told if set(part) <= set(group)), game[group])

    def test_there_and_back(self):
        for game in all_games():
            told = dividends(game)
            self.assertEqual(unchanged(self, by_dividends, game.people, told), game)
            self.assertEqual(by_dividends(game.people, dict(reversed(list(told.items())))), game)
            # The groups with nothing can be left out.
            self.assertEqual(by_dividends(game.people, {group: told[group] for group in told if told[group]}), game)

    def test_back_and_there(self):
        source = random.Random(4)
        for people in PEOPLE:
            groups = some_groups(people)
            for _ in range(30):
                put = {group: source.randint(-9, 9) for group in groups if source.random() < 0.5}
                game = by_dividends(people, put)
                self.assertIsInstance(game, Game)
                self.assertEqual(game.people, people)
                self.assertEqual(dividends(game), {group: put.get(group, 0) for group in groups})
                for group in groups:
                    self.assertEqual(game[group], sum(put[part] for part in put if set(part) <= set(group)))
            self.assertEqual(by_dividends(people, {}), Game.additive(people, (0,) * len(people)))

    def test_no_state_is_shared(self):
        put = {("a",): 1}
        game = by_dividends(("a", "b"), put)
        put[("a",)] = 5
        self.assertEqual(game["a",], 1)
        told = dividends(PAIRS)
        told[("a",)] = 9
        self.assertEqual((dividends(PAIRS)["a",], PAIRS["a",]), (0, 0))

    def test_no_dividend_below_nothing_tells_a_growing_game(self):
        source = random.Random(9)
        for people in PEOPLE:
            for _ in range(20):
                put = {group: source.randint(0 if len(group) > 1 else -9, 6) for group in some_groups(people)}
                self.assertEqual(broken_by_hand(by_dividends(people, put)), [])
        # There are other growing games.
        game = by_size(("a", "b", "c"), [0, 0, 2, 5])
        self.assertEqual((broken_by_hand(game), dividends(game)["a", "b", "c"]), ([], -1))

    def test_worths_at_the_bounds(self):
        for sign in (1, -1):
            self.assertEqual(by_dividends(("a", "b"), {("a",): sign * HIGH})["a", "b"], sign * HIGH)
            self.assertIs(raised(by_dividends, ("a", "b"), {("a",): sign * (HIGH + 1)}).__class__, InvalidGame)
            self.assertIs(raised(by_dividends, ("a", "b"), {("a",): sign * HIGH, ("b",): sign}).__class__, InvalidGame)
            told = {("a",): sign * HIGH, ("b",): sign * HIGH, ("a", "b"): -sign * HIGH}
            self.assertEqual(by_dividends(("a", "b"), told)["a", "b"], sign * HIGH)
        for game in high_games(PEOPLE[-1]):
            self.assertEqual(by_dividends(PEOPLE[-1], dividends(game)), game)
        wide = Game(PEOPLE[-1], {group: HIGH * (-1) ** len(group) for group in some_groups(PEOPLE[-1])})
        self.assertEqual(max(abs(number) for number in dividends(wide).values()), 31 * HIGH)
        self.assertEqual(by_dividends(PEOPLE[-1], dividends(wide)), wide)

    def test_integers_of_sixty_digits(self):
        long = 10 ** 60 - 1
        for told in ({("a",): long}, {("a",): long, ("b",): -long}, {("a", "b"): -long}, {("a", "b"): long, ("a",): 3}):
            self.assertIs(raised(by_dividends, ("a", "b"), told).__class__, InvalidGame, told)
            more = dict(told)
            more[("b",)] = 10 ** 60
            self.assertIs(raised(by_dividends, ("a", "b"), more).__class__, InvalidOperation, more)
        self.assertIs(raised(by_dividends, ("a", "b"), {("a", "b"): 10 ** 60, ("a",): -10 ** 60}).__class__, InvalidOperation)


def least_by_hand(people, sharings):
    """The least sum of each group in some tuples."""
    rows = [dict(zip(people, sharing)) for sharing in sharings]
    return {group: min(sum(row[person] for person in group) for row in rows) for group in some_groups(people)}


def tells_back(game):
    """Whether the worth of each group is its least share in all pays."""
    least = least_by_hand(game.people, [walked(game, order) for order in all_orders(game.people)])
    return all(least[group] == game[group] for group in least)


class ToldBack(unittest.TestCase):
    def test_by_pays(self):
        for game in all_games():
            told = tuple(sorted({walked(game, order) for order in all_orders(game.people)}))
            least = least_by_hand(game.people, told)
            if max(abs(worth) for worth in least.values()) > HIGH:
                self.assertIs(raised(told_back, game.people, told).__class__, InvalidGame)
                continue
            back = unchanged(self, told_back, game.people, told)
            self.assertEqual(back, Game(game.people, least))
            self.assertIs(back == game, broken_by_hand(game) == [])

    def test_exactly_the_growing_games(self):
        seen = set()
        for game in all_games() + small_growing():
            expected = tells_back(game)
            self.assertIs(unchanged(self, is_told_back, game), expected)
            self.assertIs(expected, broken_by_hand(game) == [])
            seen.add((len(game), expected))
        self.assertEqual(len(seen), 9)

    def test_games_whose_pays_tell_back_no_game(self):
        # What is told back would be out of the bounds of worths, so no game is; the answer is still no.
        game = Game(("a", "b"), {("a",): HIGH, ("a", "b"): -HIGH, ("b",): HIGH})
        self.assertEqual(pays(game), ((-2 * HIGH, HIGH), (HIGH, -2 * HIGH)))
        self.assertIs(raised(told_back, ("a", "b"), pays(game)).__class__, InvalidGame)
        self.assertIs(is_told_back(game), False)

    def test_sharings_of_many_kinds(self):
        source = random.Random(7)
        for people in PEOPLE:
            for many in (1, 2, 3, 9):
                for _ in range(6):
                    heads = [tuple(source.randint(-9, 9) for _ in people[1:]) for _ in range(many)]
                    told = tuple(sorted({head + (5 - sum(head),) for head in heads}))
                    self.assertEqual(told_back(people, told), Game(people, least_by_hand(people, told)))
        self.assertEqual(told_back(("a", "b"), ((1, 2),)), Game.additive(("a", "b"), (1, 2)))
        self.assertEqual(told_back(("k",), ((7,),)), Game(("k",), {("k",): 7}))

    def test_kept_sharings_tell_back_a_growing_game(self):
        for game in small_growing():
            self.assertEqual(told_back(game.people, tuple(forced_kept(game))), game)
        # Two kept sharings of MOST and others need not tell a growing game.
        self.assertIs(is_growing(told_back(("a", "b", "c", "d"), ((0, 0, 0, 2), (1, 1, -1, 1)))), False)

    def test_long_integers(self):
        long = 10 ** 60 - 1
        told = ((-long, long), (long, -long))
        self.assertIs(raised(told_back, ("a", "b"), told).__class__, InvalidGame)
        self.assertIs(raised(told_back, ("a", "b"), ((-long - 1, long + 1),)).__class__, InvalidOperation)
        self.assertIs(raised(told_back, ("a", "b"), ((HIGH, 0), (HIGH + 1, -1))), None)
        self.assertIs(raised(told_back, ("a", "b"), ((HIGH + 1, -1),)).__class__, InvalidGame)
        self.assertIs(raised(told_back, ("k",), ((HIGH + 1,),)).__class__, InvalidGame)
        self.assertEqual(told_back(("k",), ((-HIGH,),))["k",], -HIGH)


def no_dividends(people):
    """Values that are no dict from some groups to integers."""
    def is_right(value):
        if value.__class__ is not dict or not all(group in some_groups(people) for group in value):
            return False
        return all(is_row_by_hand((number,), 1) for number in value.values())
    head = people[:1]
    near = [
        {head: True}, {head: None}, {head: "1"}, {head: 10 ** 60}, {head: -10 ** 60}, {head: (1,)}, {(): 1}, {(): 0}, {("zz",): 0}, {people[0]: 1},
        {head * 2: 1}, {people[::-1] + ("a",): 1}, {head: 1, (): 0}, {head: [1]}, {(head,): 1}, {1: 1}, {None: 1}, [(head, 1)], ((head, 1),),
        {head: 1, ("zz",): 1}, {head + (None,): 1},
    ]
    return [value for value in strange() + near if not is_right(value)]


def no_sets(people):
    """Values that are no set of tuples of integers with the same sum."""
    many = len(people)
    near = [(row,) for row in no_rows(many)]
    zero, one = (0,) * many, (0,) * (many - 1) + (1,)
    near += [(), [zero], (zero, zero), (zero, one), {zero: 1}, (list(zero),), zero, (zero, None), (None, zero), ((zero,),)]
    if many > 1:
        other = (-1,) + (0,) * (many - 2) + (1,)
        near += [(zero, other), (other, zero, zero), (other, zero, zero[1:]), [other, zero], (other, zero + (0,)), (other, (True,) + zero[1:-1] + (-1,))]
    return near + [value for value in strange() if value != ((1,),)]


class Errors(unittest.TestCase):
    def test_wrong_arguments(self):
        for game in (PAIRS, MOST, STEPS, wild(("k",), 1), wild(PEOPLE[-1], 2)):
            for call in (fair, fair_sharing, dividends, is_told_back):
                refused(self, call, (game,), "game")
        for people in PEOPLE:
            more = {
                "people": (lambda people: no_people(), InvalidGame, None),
                "dividends": (no_dividends, InvalidOperation, None),
                "sharings": (no_sets, InvalidOperation, None),
            }
            refused(self, by_dividends, (people, {people: 3}), "people dividends", more)
            refused(self, told_back, (people, ((1,) * len(people),)), "people sharings", more)

    def test_what_comes_last(self):
        # There is no such game, but the other argument is wrong, too.
        self.assertIs(raised(by_dividends, ("a", "b"), {("a",): 2 * HIGH, ("zz",): 1}).__class__, InvalidOperation)
        self.assertIs(raised(told_back, ("a", "b"), ((2 * HIGH, 0), (2 * HIGH, 0))).__class__, InvalidOperation)
        self.assertIs(raised(by_dividends, ("b", "a"), {("zz",): 1}).__class__, InvalidGame)

    def test_sets_of_different_sums(self):
        self.assertIs(raised(told_back, ("a", "b"), ((0, 1), (1, 1))).__class__, InvalidOperation)
        self.assertIs(raised(told_back, ("a", "b"), ((1, 0), (0, 1))).__class__, InvalidOperation)
        self.assertIs(raised(told_back, ("a", "b"), ((0, 1), (1, 0), (1, 0))).__class__, InvalidOperation)
        self.assertEqual(told_back(("a", "b"), ((0, 1), (1, 0))), by_size(("a", "b"), [0, 0, 1]))

    def test_fair_sharings_of_kept_ones(self):
        for game in small_growing():
            many, sharing = fair_sharing(game)
            self.assertTrue(some_kept(game))
            self.assertEqual(left_by_hand(game * many, sharing), [])


if __name__ == "__main__":
    unittest.main()
