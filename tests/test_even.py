"""[11.1], [11.2], [0.5], [1.3], stage 11: even shares."""

import unittest
from fractions import Fraction
from math import gcd

from joinmore.base.games import Game
from joinmore.errors import InvalidGame, InvalidOperation, InvalidSharing, UnknownName
from joinmore.more.even import barring, even, even_sharing, is_even, ladder, unevenness
from tests.cases import (
    MOST, PAIRS, PEOPLE, STEPS, all_groups, forced_kept, growing_games, other_games, same, sharing_of, small_growing, some_kept, some_left,
    strange, wild,
)
from tests.refusals import not_growing, raised, refused, unchanged


def sizes_for(people):
    """Some tuples of sizes, at both ends of what is allowed."""
    many = len(people)
    return [
        (1,) * many, (10 ** 6,) * many, tuple(range(1, many + 1)), (10 ** 6, 1, 999983, 2, 500000)[:many], (3, 1, 4, 1, 5)[:many],
        (1, 1, 9, 1, 1)[:many],
    ]


def no_sizes(game):
    """Values that are no sizes of the game, although some are near to them."""
    many = len(game.people)
    right = tuple(range(2, many + 2))
    near = [right[1:], right + (1,), list(right), (0,) + right[1:], (-1,) + right[1:], right[:-1] + (10 ** 6 + 1,), (True,) + right[1:]]
    near += [right[:-1] + (value,) for value in (None, "1", (1,), [1], 10 ** 59, 10 ** 60, False, -10 ** 6)]
    near += [(right,), dict(enumerate(right)), (), (0,) * many, (10 ** 6 + 1,) * many]
    return [value for value in strange() if value != (1,) * many] + near


SIZES = {"sizes": (no_sizes, InvalidOperation, None)}


def size_of(people, sizes, group):
    return sum(dict(zip(people, sizes))[person] for person in group)


def ladder_by_hand(game, sizes):
    """The ladder, by the union of all groups of further persons that bring most for their size."""
    people, ahead, told = game.people, (), []
    while ahead != people:
        rest = [group for group in all_groups(people) if group and not set(group) & set(ahead)]
        both = {group: tuple(sorted(group + ahead)) for group in rest}
        brought = {group: Fraction(game[both[group]] - game[ahead], size_of(people, sizes, group)) for group in rest}
        most = max(brought.values())
        ahead = tuple(sorted({person for group in rest if brought[group] == most for person in both[group]}))
        told.append((ahead, most))
    return told


def even_by_hand(game, sizes):
    told, size = {}, dict(zip(game.people, sizes))
    for group, step in ladder_by_hand(game, sizes):
        for person in group:
            told.setdefault(person, step * size[person])
    return [told[person] for person in game.people]


def uneven_by_hand(sizes, shares):
    return sum(Fraction(share) * share / size for share, size in zip(shares, sizes))


class Examples(unittest.TestCase):
    def test_examples(self):
        told = [ladder(STEPS, (1, 1, 1)), ladder(STEPS, (1, 1, 9)), even(STEPS, (1, 1, 9)), even_sharing(STEPS, (1, 1, 9)), is_even(STEPS, (1, 1, 9), (4, (6, 6, 24)))]
        self.assertEqual(told, [((("a", "b", "c"), (3, 1)),), ((("a", "b"), (3, 2)), (("a", "b", "c"), (2, 3))), ((3, 2), (3, 2), (6, 1)), (2, (3, 3, 12)), True])
        told = [barring(STEPS, (1, 1, 9), "c", "a"), barring(STEPS, (1, 1, 9), "a", "c"), barring(STEPS, (1, 1, 9), "a", "b"), unevenness(STEPS, (1, 2, 3), (1, 2, 6))]
        self.assertEqual(told, [("a", "b"), None, None, (15, 1)])


class Shares(unittest.TestCase):
    def cases(self):
        return [(game, sizes) for game in growing_games() for sizes in sizes_for(game.people)]

    def is_fraction(self, value):
        self.assertEqual((value.__class__, len(value)), (tuple, 2))
        self.assertTrue(all(number.__class__ is int for number in value))
        self.assertTrue(value[1] >= 1 and gcd(*value) == 1)
        return Fraction(*value)

    def test_ladders(self):
        seen = set()
        for game, sizes in self.cases():
            told = unchanged(self, ladder, game, sizes)
            self.assertIsInstance(told, tuple)
            self.assertTrue(all(step.__class__ is tuple and len(step) == 2 for step in told))
            steps = [(group, self.is_fraction(step)) for group, step in told]
            self.assertEqual(steps, ladder_by_hand(game, sizes))
            self.assertTrue(all(one[1] > other[1] for one, other in zip(steps, steps[1:])))
            self.assertTrue(all(set(one[0]) < set(other[0]) for one, other in zip(steps, steps[1:])))
            self.assertEqual(steps[-1][0], game.people)
            seen.add((len(game.people), len(steps)))
        self.assertTrue({(5, many) for many in range(1, 6)} <= seen)

    def test_even_shares(self):
        for game, sizes in self.cases():
            told = unchanged(self, even, game, sizes)
            self.assertIsInstance(told, tuple)
            self.assertEqual([self.is_fraction(share) for share in told], even_by_hand(game, sizes))

    def test_they_are_kept(self):
        for game, sizes in self.cases():
            shares = dict(zip(game.people, even_by_hand(game, sizes)))
            slacks = {group: sum(shares[person] for person in group) - game[group] for group in all_groups(game.people)}
            self.assertTrue(all(left >= 0 for left in slacks.values()))
            self.assertEqual(slacks[game.people], 0)
            size = dict(zip(game.people, sizes))
            for poorer in game.people:
                for richer in game.people:
                    group = unchanged(self, barring, game, sizes, poorer, richer)
                    first = [step for step, _ in ladder_by_hand(game, sizes) if richer in step][0]
                    self.assertEqual(group, None if poorer in first else first)
                    if group is not None:
                        self.assertEqual(slacks[group], 0)
                    lacks = shares[poorer] / size[poorer] < shares[richer] / size[richer]
                    self.assertIs(group is not None, lacks)

    def test_even_sharings(self):
        for game, sizes in self.cases():
            told = unchanged(self, even_sharing, game, sizes)
            self.assertEqual((told.__class__, len(told), told[0].__class__, told[1].__class__), (tuple, 2, int, tuple))
            many, sharing = told
            shares = even_by_hand(game, sizes)
            self.assertEqual([Fraction(share, many) for share in sharing], shares)
            self.assertTrue(all(share.__class__ is int for share in sharing))
            # It is the least such integer: with the shares, it has no common divisor.
            self.assertEqual(gcd(many, *sharing), 1)
            self.assertTrue(many >= 1)
            self.assertEqual(sum(sharing), many * game[game.people])
            for more in (1, 2, 7):
                self.assertIs(is_even(game, sizes, (more * many, tuple(more * share for share in sharing))), True)

    def test_the_least_sum(self):
        for game in small_growing():
            for sizes in sizes_for(game.people):
                least = uneven_by_hand(sizes, even_by_hand(game, sizes))
                for sharing in forced_kept(game):
                    told = uneven_by_hand(sizes, sharing)
                    self.assertTrue(told > least or (told == least and list(sharing) == even_by_hand(game, sizes)))
                    self.assertIs(is_even(game, sizes, (1, sharing)), told == least)

    def test_the_least_sum_with_fractions(self):
        for game in (STEPS, PAIRS):
            for sizes in ((1, 1, 1), (1, 1, 9), (2, 1, 3), (5, 1, 1)):
                many, sharing = even_sharing(game, sizes)
                great = game * many
                told = {kept: uneven_by_hand(sizes, kept) for kept in forced_kept(great)} if many < 12 else {}
                if told:
                    self.assertEqual([kept for kept in told if told[kept] == min(told.values())], [sharing])
        self.assertEqual(even_sharing(PAIRS, (1, 1, 1)), (1, (2, 2, 2)))

    def test_unevenness(self):
        for game in growing_games():
            for sizes in sizes_for(game.people):
                for sharing in some_kept(game, 1) + some_left(game)[:2]:
                    told = unchanged(self, unevenness, game, sizes, sharing)
                    self.assertEqual(self.is_fraction(told), uneven_by_hand(sizes, sharing))
        self.assertEqual(unevenness(PAIRS, (1, 1, 1), (6, 0, 0)), (36, 1))
        self.assertEqual(unevenness(PAIRS, (3, 2, 4), (1, 2, 3)), (55, 12))
        self.assertEqual(unevenness(Game.additive(("a", "b"), (0, 0)), (7, 9), (0, 0)), (0, 1))
        high = 10 ** 60 - 1
        self.assertEqual(unevenness(Game.additive(("a", "b"), (0, 0)), (1, 1), (high, -high)), (2 * high * high, 1))

    def test_shares_below_nothing(self):
        game = Game.additive(("a", "b"), (-3, -2))
        self.assertEqual(ladder(game, (2, 4)), ((("b",), (-1, 2)), (("a", "b"), (-3, 2))))
        self.assertEqual(even(game, (2, 4)), ((-3, 1), (-2, 1)))
        self.assertEqual(ladder(Game(("k",), {("k",): 0}), (6,)), ((("k",), (0, 1)),))


class Judged(unittest.TestCase):
    def test_near_values(self):
        sizes = (1, 1, 9)
        for value in ((2, (3, 3, 12)), (4, (6, 6, 24)), (2 * 10 ** 58, (3 * 10 ** 58, 3 * 10 ** 58, 12 * 10 ** 58))):
            self.assertIs(unchanged(self, is_even, STEPS, sizes, value), True, value)
        long = 10 ** 60
        wrong = (
            (1, (3, 3, 12)), (2, (3, 4, 11)), (2, (3, 3, 13)), (2, (3, 3)), (2, (3, 3, 12, 0)), (2, [3, 3, 12]), [2, (3, 3, 12)], (2, 3, 3, 12),
            (-2, (-3, -3, -12)), (0, (0, 0, 0)), (2, (3, 3, 12), ()), (2,), ((3, 3, 12), 2), (3, 3, 12), (True, (3, 3, 12)), (None, (3, 3, 12)),
            ("2", (3, 3, 12)), (2, (3, 3, "12")), (2, (3, 3, None)), (2, ((3,), 3, 12)), {2: (3, 3, 12)}, 2, None, (), ((2, (3, 3, 12)),),
            (2, {0: 3, 1: 3, 2: 12}), (2, None), (2, PAIRS), PAIRS, (2, "abc"), (2 * long, (3 * long, 3 * long, 12 * long)),
            (long // 5, (3 * long // 10, 3 * long // 10, 12 * long // 10)), (4, (6, 6, 23)), (2, (3, True, 12)),
        )
        for value in wrong:
            self.assertIs(is_even(STEPS, sizes, value), False, value)

    def test_true_is_not_one(self):
        game = Game.additive(("a", "b"), (1, 0))
        self.assertIs(is_even(game, (1, 1), (1, (1, 0))), True)
        for value in ((True, (1, 0)), (1, (True, 0)), (1, (1, False))):
            self.assertIs(is_even(game, (1, 1), value), False)

    def test_values_of_all_kinds(self):
        for game in (PAIRS, STEPS, Game(("k",), {("k",): 0}), Game.additive(PEOPLE[-1], (0,) * 5)):
            nothing = (0,) * len(game)
            for value in strange():
                for put in (value, (value, nothing), (value,), (2, value)):
                    self.assertIs(is_even(game, (1,) * len(game), put), game[game.people] == 0 and self.is_nothing(put, nothing))

    def is_nothing(self, put, nothing):
        """Whether this is an integer of at least 1, and nothing for each person."""
        if not isinstance(put, tuple) or len(put) != 2 or not same(put[1], nothing):
            return False
        return put[0].__class__ is int and 1 <= put[0] < 10 ** 60


class Errors(unittest.TestCase):
    def test_wrong_arguments(self):
        for game in (PAIRS, MOST, wild(("a", "b"), 4), wild(PEOPLE[-1], 2)):
            sizes, one, two = (1,) * len(game), game.people[0], game.people[1]
            for call in (ladder, even, even_sharing):
                refused(self, call, (game, sizes), "game sizes", SIZES)
            for value in ((1, sharing_of(game)), None, [1]):
                refused(self, is_even, (game, sizes, value), "game sizes -", SIZES)
            refused(self, barring, (game, sizes, one, two), "game sizes person person", SIZES)
            refused(self, unevenness, (game, sizes, sharing_of(game, 2)), "game sizes sharing", SIZES)

    def test_the_first_one_that_is_no_person(self):
        for poorer, richer, name in (("zz", "yy", "zz"), ("a", "yy", "yy"), ("zz", "a", "zz"), ("zz", "zz", "zz")):
            found = raised(barring, STEPS, (1, 1, 1), poorer, richer)
            self.assertEqual((found.__class__, found.name), (UnknownName, name))
        self.assertIsNone(barring(STEPS, (1, 1, 9), "a", "a"))

    def test_not_growing(self):
        for game in other_games():
            for sizes in ((1,) * len(game), (10 ** 6,) * len(game)):
                for call in (ladder, even, even_sharing):
                    not_growing(self, call, game, sizes)
                not_growing(self, is_even, game, sizes, None)
                not_growing(self, barring, game, sizes, game.people[0], game.people[-1])
                not_growing(self, unevenness, game, sizes, sharing_of(game, 1))

    def test_the_sharing_need_not_be_kept(self):
        for game in growing_games():
            for sharing in some_left(game)[:2]:
                self.assertIsNone(raised(unevenness, game, (1,) * len(game), sharing))
        self.assertIs(raised(unevenness, MOST, (1, 1, 1), (1, 1, 1)).__class__, InvalidSharing)
        self.assertIs(raised(ladder, None, None).__class__, InvalidGame)


if __name__ == "__main__":
    unittest.main()
