"""[21.1], [21.2], [0.5], [0.6], [1.3], stage 21: the poorest first."""

import unittest

from joinmore.base.games import Game
from joinmore.errors import InvalidGame, InvalidNumber, InvalidSharing, Left, NotGrowing
from joinmore.more.even import even_sharing
from joinmore.more.poorest import is_fairer, is_levelled, is_levelling, levelled, levelling, poorest
from tests.cases import (
    MOST, PAIRS, PEOPLE, STEPS, all_groups, broken_by_hand, by_size, forced_kept, given_by_hand, growing_games, high_games, no_factors,
    no_sharings, other_games, pairs_of, share_by_hand, sharing_of, small_growing, some_kept, some_left, strange, walked, wild,
)
from tests.refusals import left, not_growing, raised, refused, unchanged

MILLION = 10 ** 6


def sums_by_hand(sharing):
    return tuple(sum(sorted(sharing)[:many]) for many in range(1, len(sharing) + 1))


def leaves_times(game, factor, row):
    return [group for group in all_groups(game.people) if share_by_hand(game, row, group) < factor * game[group]]


def is_gift_by_hand(game, factor, sharing, value):
    """Whether a value is a levelling gift, and the sharing behind it is kept."""
    if value.__class__ is not tuple or len(value) != 3:
        return False
    giver, getter, amount = value
    if giver not in game.people or getter not in game.people or amount.__class__ is not int or not 1 <= amount < 10 ** 60:
        return False
    shares = dict(zip(game.people, sharing))
    if not shares[giver] > shares[getter]:
        return False
    behind = given_by_hand(game, sharing, giver, getter, amount)
    told = dict(zip(game.people, behind))
    return told[giver] >= told[getter] and leaves_times(game, factor, behind) == []


def most_by_hand(game, factor, sharing, giver, getter):
    """The greatest integer of a levelling gift of two persons, or 0."""
    shares = dict(zip(game.people, sharing))
    groups = [group for group in all_groups(game.people) if giver in group and getter not in group]
    slack = min(share_by_hand(game, sharing, group) - factor * game[group] for group in groups)
    return max(0, min(slack, (shares[giver] - shares[getter]) // 2))


def times(sharing, factor):
    return tuple(share * factor for share in sharing)


def walk_by_hand(game, sharing, value):
    """What is wrong with a pair (factor, gifts) that should lead a sharing to the even one."""
    factor, aim = even_sharing(game, (1,) * len(game))
    if value.__class__ is not tuple or len(value) != 2 or value[0].__class__ is not int or value[0] != factor or value[1].__class__ is not tuple:
        return "this is no pair of the factor and gifts"
    spot = times(sharing, factor)
    for gift in value[1]:
        if not is_gift_by_hand(game, factor, spot, gift):
            return f"{gift} is no levelling gift"
        spot = given_by_hand(game, spot, *gift)
    return None if spot == aim else "it does not lead to the even sharing"


def kept_times(game):
    """Pairs (factor, kept sharing of the game times the factor)."""
    kept = some_kept(game, 2)
    found = [(1, sharing) for sharing in kept] + [(MILLION, times(sharing, MILLION)) for sharing in kept[:2]]
    found += [(2, tuple(share + more for share, more in zip(one, other))) for one, other in zip(kept, kept[1:] + kept[:1])]
    return found + [even_sharing(game, (1,) * len(game))]


class Sums(unittest.TestCase):
    def test_by_sums(self):
        for game in growing_games():
            told = kept_times(game)
            for factor, sharing in told:
                self.assertEqual(unchanged(self, poorest, game, factor, sharing), sums_by_hand(sharing))
                for other_factor, other in told:
                    if other_factor == factor:
                        expected = all(one >= two for one, two in zip(sums_by_hand(sharing), sums_by_hand(other)))
                        self.assertIs(unchanged(self, is_fairer, game, factor, sharing, other), expected)
        self.assertEqual(poorest(Game(("k",), {("k",): -3}), 2, (-6,)), (-6,))

    def test_each_two_of_small_games(self):
        seen = set()
        for game in small_growing():
            kept = forced_kept(game)[:25]
            for one in kept:
                for other in kept:
                    expected = all(more >= told for more, told in zip(sums_by_hand(one), sums_by_hand(other)))
                    self.assertIs(is_fairer(game, 1, one, other), expected)
                    seen.add((expected, sorted(one) == sorted(other)))
        self.assertEqual(seen, {(True, True), (True, False), (False, False)})

    def test_the_even_sharing_is_fairest(self):
        for game in small_growing() + [STEPS, PAIRS]:
            factor, aim = even_sharing(game, (1,) * len(game))
            great = game * factor if factor * max(map(abs, game.row)) < 10 ** 9 else None
            kept = forced_kept(great) if great is not None and great[great.people] < 40 else []
            for sharing in [times(sharing, factor) for sharing in forced_kept(game)] + kept:
                self.assertIs(is_fairer(game, factor, aim, sharing), True)
                if sharing != aim:
                    self.assertIs(is_fairer(game, factor, sharing, aim), False)


class Gifts(unittest.TestCase):
    def test_every_triple(self):
        seen = set()
        for game in small_growing() + growing_games()[::5]:
            for factor, sharing in kept_times(game)[:6]:
                for giver in game.people + ("zz",):
                    for getter in game.people + ("zz",):
                        near = (0, 1, 2, 3, -1)
                        if giver in game.people and getter in game.people and giver != getter:
                            most = most_by_hand(game, factor, sharing, giver, getter)
                            near += (most - 1, most, most + 1, 2 * most)
                        for amount in near:
                            value = (giver, getter, amount)
                            expected = is_gift_by_hand(game, factor, sharing, value)
                            self.assertIs(is_levelling(game, factor, sharing, value), expected, (game, factor, sharing, value))
                            seen.add(expected)
        self.assertEqual(seen, {True, False})

    def test_near_gifts(self):
        # The giver has more ahead, and not less behind.
        game = by_size(("a", "b"), [0, 0, 10])
        for sharing, told in (((10, 0), {1, 2, 3, 4, 5}), ((6, 4), {1}), ((5, 5), set()), ((7, 3), {1, 2}), ((4, 6), set())):
            for amount in range(-1, 12):
                self.assertIs(is_levelling(game, 1, sharing, ("a", "b", amount)), amount in told)
        game = by_size(("a", "b"), [0, 0, 9])
        self.assertEqual([is_levelling(game, 1, (9, 0), ("a", "b", amount)) for amount in (4, 5)], [True, False])
        # Some group would leave behind the greater gift.
        tight = Game(("a", "b"), {("a",): 7, ("a", "b"): 10, ("b",): 0})
        self.assertEqual([is_levelling(tight, 1, (10, 0), ("a", "b", amount)) for amount in (2, 3, 4)], [True, True, False])

    def test_near_values(self):
        sharing = (0, 2, 4)
        self.assertIs(unchanged(self, is_levelling, PAIRS, 1, sharing, ("c", "a", 2)), True)
        wrong = (
            ("c", "a", 3), ("c", "a", 0), ("c", "a", -1), ("a", "c", 1), ("a", "c", -1), ("c", "c", 1), ("c", "a", True), ("c", "a", None), ("c", "a", "1"),
            ("c", "a", 1.0), ["c", "a", 1], ("c", "a"), ("c", "a", 1, 1), ("c", "z", 1), ("z", "a", 1), (("c",), "a", 1), ("c", ["a"], 1), ("c", 0, 1),
            (2, 0, 1), ("ca", 1), "ca1", None, True, (), {"c": "a"}, PAIRS, (PAIRS, "a", 1), ("c", PAIRS, 1), ("c", "a", PAIRS), (("c", "a", 1),),
            ("c", "a", 10 ** 60), ("c", "a", (1,)), ("c", "a", [1]), (None, None, 1), ("C", "a", 1), (1, "c", "a"),
        )
        for value in wrong:
            self.assertIs(is_levelling(PAIRS, 1, sharing, value), False, value)
        for value in strange():
            for put in (value, (value, "a", 1), ("c", value, 1), ("c", "a", value)):
                self.assertIs(is_levelling(PAIRS, 1, sharing, put), is_gift_by_hand(PAIRS, 1, sharing, put))

    def test_as_great_as_possible(self):
        seen = set()
        for game in growing_games() + small_growing():
            for factor, sharing in kept_times(game):
                told = unchanged(self, levelling, game, factor, sharing)
                most = {pair: most_by_hand(game, factor, sharing, *pair) for pair in pairs_of(game.people)}
                if told is None:
                    self.assertTrue(all(amount == 0 for amount in most.values()))
                else:
                    self.assertEqual((told.__class__, len(told), told[2].__class__), (tuple, 3, int))
                    self.assertTrue(told[2] == most[told[:2]] >= 1)
                    self.assertIs(is_levelling(game, factor, sharing, told), True)
                    # The sharing behind it is fairer, and not as fair.
                    behind = given_by_hand(game, sharing, *told)
                    self.assertIs(is_fairer(game, factor, behind, sharing), True)
                    self.assertIs(is_fairer(game, factor, sharing, behind), False)
                seen.add((len(game), told is None))
        self.assertEqual(len(seen), 9)

    def test_none_exactly_if_no_kept_sharing_is_fairer(self):
        for game in small_growing() + [by_size(("a", "b", "c"), [0, 0, 0, 7])]:
            kept = forced_kept(game)
            for sharing in kept[:30]:
                fairer = [other for other in kept if is_fairer(game, 1, other, sharing) and not is_fairer(game, 1, sharing, other)]
                self.assertEqual(levelling(game, 1, sharing) is None, fairer == [])
        self.assertIsNone(levelling(by_size(("a", "b", "c"), [0, 0, 0, 7]), 1, (2, 3, 2)))


class Levelled(unittest.TestCase):
    def hold(self, game, sharing):
        told = unchanged(self, levelled, game, sharing)
        self.assertIsNone(walk_by_hand(game, sharing, told), (game, sharing, told))
        self.assertTrue(len(told[1]) <= 2 * len(game) * len(game))
        self.assertIs(is_levelled(game, sharing, told), True)
        return told

    def test_of_all_kept_sharings(self):
        for game in small_growing():
            for sharing in forced_kept(game)[:60]:
                factor, gifts = self.hold(game, sharing)
                self.near(game, sharing, factor, gifts)

    def test_of_great_games(self):
        for game in growing_games():
            for sharing in some_kept(game):
                self.hold(game, sharing)

    def near(self, game, sharing, factor, gifts):
        """Right tuples of gifts of other kinds, and wrong ones, are judged as by hand."""
        told = [gifts[1:], gifts[:-1], gifts + gifts[-1:], gifts[::-1], gifts[1:] + gifts[:1], (), gifts + (("a", "b", 1),)]
        for at, (giver, getter, amount) in enumerate(gifts):
            told += [gifts[:at] + ((giver, getter, amount + more),) + gifts[at + 1:] for more in (-1, 1)]
            told.append(gifts[:at] + ((giver, getter, 1),) * amount + gifts[at + 1:])
            told.append(gifts[:at] + ((getter, giver, amount),) + gifts[at + 1:])
        for put in told:
            self.assertIs(is_levelled(game, sharing, (factor, put)), walk_by_hand(game, sharing, (factor, put)) is None, put)
        for many in (factor + 1, 2 * factor, 0, -factor, True, str(factor), None, 10 ** 60):
            value = (many, gifts)
            self.assertIs(is_levelled(game, sharing, value), False)
        if factor == 1:
            self.assertIs(is_levelled(game, sharing, (True, gifts)), False)

    def test_greatest_gifts_lead_there_as_well(self):
        for game in small_growing() + [by_size(("a", "b", "c"), [0, 0, 0, 3000]), by_size(("a", "b"), [0, 0, 10 ** 9])]:
            factor, aim = even_sharing(game, (1,) * len(game))
            for sharing in some_kept(game, 2):
                spot, gifts = times(sharing, factor), ()
                while len(gifts) < 400:
                    gift = levelling(game, factor, spot)
                    if gift is None:
                        break
                    gifts, spot = gifts + (gift,), given_by_hand(game, spot, *gift)
                self.assertEqual(spot, aim)
                self.assertIs(is_levelled(game, sharing, (factor, gifts)), True)

    def test_by_hand(self):
        self.assertEqual(levelled(PAIRS, (2, 2, 2)), (1, ()))
        for gifts, told in (
            ((("c", "a", 2),), True), ((("c", "a", 1), ("c", "a", 1)), True), ((("b", "a", 1), ("c", "b", 1), ("c", "a", 1)), True), ((), False),
            ((("c", "b", 1), ("b", "a", 1), ("c", "a", 1)), True), ((("c", "a", 1),), False), ((("c", "a", 3),), False), ([("c", "a", 2)], False),
            ((["c", "a", 2],), False), ((("c", "a", 2), ("c", "a", 0)), False), ((("c", "a", 2), None), False), (None, False), (("c", "a", 2), False),
            ((("b", "a", 2), ("c", "b", 2)), False), ((("c", "a", True), ("c", "a", 1)), False),
        ):
            self.assertIs(is_levelled(PAIRS, (0, 2, 4), (1, gifts)), told, gifts)
        for value in (None, True, (), (1,), 1, [1, (("c", "a", 2),)], (1, (("c", "a", 2),), ()), ((("c", "a", 2),), 1), {1: (("c", "a", 2),)}, "1", PAIRS, (PAIRS, ())):
            self.assertIs(is_levelled(PAIRS, (0, 2, 4), value), False)
        for value in strange():
            for put in (value, (1, value), (value, (("c", "a", 2),)), (1, (value,)), (1, (("c", "a", 2), value))):
                self.assertIs(is_levelled(PAIRS, (0, 2, 4), put), walk_by_hand(PAIRS, (0, 2, 4), put) is None)

    def test_many_gifts(self):
        game = by_size(("a", "b"), [0, 0, 200000])
        for many in (99999, 100000, 100001):
            self.assertIs(is_levelled(game, (200000, 0), (1, (("a", "b", 1),) * many)), many == 100000)
        game = by_size(("a", "b", "c"), [0, 0, 0, 30000])
        for pair in (("a", "b", 1), ("a", "c", 1)), (("a", "c", 1), ("a", "b", 1)):
            for many in (9999, 10000, 10001):
                self.assertIs(is_levelled(game, (30000, 0, 0), (1, pair * many)), many == 10000)
        # Gifts of different integers between the same two persons are as one of their sum.
        for row, told in (((5, 3), True), ((3, 5), True), ((7, 1), True), ((8,), True), ((9, -1), False), ((8, 0), False), ((5, 2), False), ((5, 4), False), ((16,), False)):
            gifts = tuple(("a", "b", amount) for amount in row)
            self.assertIs(is_levelled(by_size(("a", "b"), [0, 0, 16]), (16, 0), (1, gifts)), told)

    def test_factors(self):
        seen = set()
        for game in growing_games() + small_growing() + [by_size(PEOPLE[3], [0, 0, 0, 0, 5]), by_size(PEOPLE[-1], [0] * 5 + [7])]:
            sharing = some_kept(game, 1)[0]
            told = levelled(game, sharing)
            self.assertEqual(told[0], even_sharing(game, (1,) * len(game))[0])
            seen.add(told[0])
        self.assertTrue({1, 2, 3, 4, 5} <= seen)

    def test_worths_near_the_bounds(self):
        for people in PEOPLE:
            for game in high_games(people):
                for sharing in some_kept(game, 6):
                    self.hold(game, sharing)


class Errors(unittest.TestCase):
    def test_wrong_arguments(self):
        more = {"factor": (lambda game: no_factors(MILLION), InvalidNumber, "value")}
        for game in (PAIRS, MOST, wild(("a", "b"), 4), wild(PEOPLE[-1], 2)):
            sharing, other = sharing_of(game, 2), sharing_of(game, 1)
            refused(self, poorest, (game, 1, sharing), "game factor sharing", more)
            refused(self, is_fairer, (game, 1, sharing, other), "game factor sharing sharing", more)
            refused(self, levelling, (game, 1, sharing), "game factor sharing", more)
            refused(self, levelled, (game, sharing), "game sharing", more)
            for value in (("a", "b", 1), None, [1]):
                refused(self, is_levelling, (game, 1, sharing, value), "game factor sharing -", more)
                refused(self, is_levelled, (game, sharing, value), "game sharing -", more)

    def test_sharings_of_another_multiple(self):
        for factor in (1, 2, MILLION):
            row = times((2, 2, 2), factor)
            for other in (1, 2, 3, MILLION):
                for call, rest in ((poorest, ()), (levelling, ()), (is_levelling, (None,))):
                    found = raised(call, PAIRS, other, row, *rest)
                    self.assertIs(found.__class__, None.__class__ if other == factor else InvalidSharing)
                self.assertIs(raised(is_fairer, PAIRS, other, times((2, 2, 2), other), row).__class__, None.__class__ if other == factor else InvalidSharing)
        for value in no_sharings(PAIRS):
            self.assertIs(raised(poorest, PAIRS, 2, value).__class__, InvalidSharing)
            self.assertIs(raised(is_fairer, PAIRS, 1, (2, 2, 2), value).__class__, InvalidSharing)
        self.assertIs(raised(poorest, None, 0, None).__class__, InvalidGame)

    def test_not_growing(self):
        for game in other_games():
            sharing, other = sharing_of(game, 1), sharing_of(game, 4)
            for factor in (1, 3):
                row, more = times(sharing, factor), times(other, factor)
                not_growing(self, poorest, game, factor, row)
                not_growing(self, is_fairer, game, factor, row, more)
                not_growing(self, is_levelling, game, factor, row, None)
                not_growing(self, levelling, game, factor, row)
            not_growing(self, levelled, game, sharing)
            not_growing(self, is_levelled, game, sharing, None)
        self.assertIs(raised(poorest, MOST, 1, (2, 2, 2)).__class__, NotGrowing)

    def left_times(self, game, factor, row, call, *args):
        found = raised(call, *args)
        self.assertIs(found.__class__, Left)
        self.assertEqual(found.group, leaves_times(game, factor, row)[0])

    def test_left(self):
        for game in growing_games()[::2]:
            kept = some_kept(game, 1)[0]
            for sharing in some_left(game)[:4]:
                left(self, sharing, levelled, game, sharing)
                left(self, sharing, is_levelled, game, sharing, None)
                for factor in (1, 2, MILLION):
                    row, good = times(sharing, factor), times(kept, factor)
                    for call, rest in ((poorest, ()), (levelling, ()), (is_levelling, (None,)), (is_fairer, (good,)), (is_fairer, (row,))):
                        self.left_times(game, factor, row, call, game, factor, row, *rest)
                    self.left_times(game, factor, row, is_fairer, game, factor, good, row)
            # Of two sharings that groups leave, the first one decides.
            told = some_left(game)
            if len(told) > 1:
                for one in told[:3]:
                    for other in told[:3]:
                        self.left_times(game, 1, one, is_fairer, game, 1, one, other)

    def test_one_share_below_the_worth_times_the_factor(self):
        # A sharing of a multiple can be kept where no sharing of the game is between.
        self.assertEqual(poorest(STEPS, 2, (3, 5, 10)), (3, 8, 18))
        self.left_times(STEPS, 2, (1, 6, 11), poorest, STEPS, 2, (1, 6, 11))
        self.assertEqual(broken_by_hand(STEPS), [])
        self.assertEqual(walked(STEPS, ("a", "b", "c")), (1, 2, 6))


if __name__ == "__main__":
    unittest.main()
