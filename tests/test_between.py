"""[13.1] to [13.3], [0.6], [0.18], [1.3], stage 13: between two games, and sharings of sums."""

import unittest
from itertools import product

from joinmore.base.games import Game
from joinmore.errors import InvalidGame, InvalidOperation, InvalidSharing, Left, NotGrowing, UnknownName
from joinmore.more.between import are_between, between_paper, is_between_paper, is_split, span, split
from tests.cases import (
    MOST, PAIRS, PEOPLE, STEPS, all_groups, all_orders, all_tests, broken_by_hand, by_size, forced_kept, gap_by_hand, growing, growing_games,
    high_games, left_by_hand, no_games, other_games, share_by_hand, small_growing, some_groups, some_kept, strange, walked, wild,
)
from tests.refusals import raised, refused, unchanged

TURNED = PAIRS.turned()
FOUR = Game.additive(("a", "b", "c", "d"), (1, 2, 3, 4))
OTHERS = (FOUR, PAIRS.renamed({"a": "z"}), Game(("k",), {("k",): 0}), STEPS.only(("a", "b")))


def within(low, high, amounts):
    """Whether each group has at least its worth in the one game and at most that in the other one."""
    return all(low[group] <= share_by_hand(low, amounts, group) <= high[group] for group in all_groups(low.people))


def forced_between(low, high):
    """All amounts between two games, ascending, by force from the bounds of the single persons."""
    return [row for row in product(*[range(low[one,], high[one,] + 1) for one in low.people]) if within(low, high, row)]


def is_shrinking_by_hand(game):
    return all(gap_by_hand(game, test) <= 0 for test in all_tests(game.people))


def shrunk(game):
    """A shrinking game from a growing one: each group has what it has not there."""
    return Game(game.people, {group: -game[group] for group in some_groups(game.people)})


def sides():
    """Pairs of a growing game and a shrinking one of the same persons, with amounts between and without."""
    found = [(PAIRS, TURNED), (STEPS, TURNED), (STEPS, STEPS.turned()), (PAIRS, STEPS.turned()), (PAIRS, shrunk(STEPS))]
    for game in small_growing():
        if len(game) > 3:
            continue
        people = game.people
        for more in ((0,) * len(people), (1,) * len(people), (-1, 2, 0)[:len(people)], (2, -1, 3)[:len(people)]):
            put = Game.additive(people, more)
            found.append((game, game.turned() + put))
            found.append((game, shrunk(growing(people, 3)) + put + put))
            found.append((game, by_size(people, [0] + [2 * at for at in range(3, 3 + len(people))]) + put))
    return found


def great_sides():
    """The same of up to five persons, and with worths near 10 ** 9."""
    found = []
    for people in PEOPLE:
        for game in (growing(people, 2), growing(people, 7), by_size(people, [0] * len(people) + [40])):
            roof = by_size(people, [at * 60 - at * at for at in range(len(people) + 1)])
            found += [(game, game.turned()), (game, roof), (game, game.turned() + Game.additive(people, tuple(range(len(people)))))]
        for game in high_games(people):
            found.append((game, by_size(people, [0] + [10 ** 9] * len(people))))
            found.append((shrunk(by_size(people, [0] + [10 ** 9 - 5] * len(people))), shrunk(game)))
    return [pair for pair in found if not broken_by_hand(pair[0]) and is_shrinking_by_hand(pair[1])]


class Examples(unittest.TestCase):
    def test_examples(self):
        told = [between_paper(PAIRS, PAIRS.turned()), are_between(PAIRS, PAIRS.turned(), (2, 2, 2)), span(PAIRS, PAIRS.turned(), "b"), between_paper(STEPS, PAIRS.turned())]
        self.assertEqual(told, [("between", (0, 2, 4)), True, (0, 4), ("above", ("a", "b", "c"))])
        told = [split(PAIRS, STEPS, (5, 5, 5)), is_split(PAIRS, STEPS, (5, 5, 5), ((2, 2, 2), (3, 3, 3))), is_between_paper(PAIRS, PAIRS.turned(), ("between", (4, 2, 0)))]
        self.assertEqual(told, [((1, 2, 3), (4, 3, 2)), True, True])
        with self.assertRaises(Left) as caught:
            split(PAIRS, STEPS, (15, 0, 0))
        self.assertEqual(caught.exception.group, ("b",))


class Between(unittest.TestCase):
    def test_by_force(self):
        seen = set()
        for low, high in sides():
            self.assertTrue(not broken_by_hand(low) and is_shrinking_by_hand(high))
            above = [group for group in all_groups(low.people) if low[group] > high[group]]
            found = forced_between(low, high)
            seen.add((len(low), bool(found)))
            # [13.1]
            self.assertIs(not found, bool(above))
            told = unchanged(self, between_paper, low, high)
            self.assertEqual(told, ("above", above[0]) if above else ("between", found[0]))
            for at, person in enumerate(low.people):
                if above:
                    self.assertIs(raised(span, low, high, person).__class__, InvalidOperation)
                else:
                    expected = (min(row[at] for row in found), max(row[at] for row in found))
                    self.assertEqual(unchanged(self, span, low, high, person), expected)
                    # [13.2]: each integer from the one to the other.
                    self.assertEqual({row[at] for row in found}, set(range(expected[0], expected[1] + 1)))
            for group in all_groups(low.people):
                self.assertIs(is_between_paper(low, high, ("above", group)), group in above)
            for row in found[:40]:
                self.assertIs(are_between(low, high, row), True)
                self.assertIs(is_between_paper(low, high, ("between", row)), True)
        self.assertEqual(seen, {(1, True), (2, True), (3, True), (2, False), (3, False)} | {(1, False)} & seen)

    def test_great_games(self):
        forms = set()
        for low, high in great_sides():
            people = low.people
            told = unchanged(self, between_paper, low, high)
            forms.add(told[0])
            self.assertIs(is_between_paper(low, high, told), True)
            if told[0] == "above":
                self.assertEqual(told[1], [group for group in all_groups(people) if low[group] > high[group]][0])
                continue
            self.assertTrue(within(low, high, told[1]))
            for at, person in enumerate(people):
                least, greatest = span(low, high, person)
                self.assertTrue(least <= told[1][at] <= greatest)
                # Both ends are reached, and nothing is beyond: the person comes first under other names.
                names = {person: "a" * 7, **{other: "b" + other[:7] for other in people if other != person}}
                first, last = low.renamed(names), high.renamed(names)
                self.assertEqual(between_paper(first, last)[1][0], least)
                self.assertEqual(-between_paper(shrunk(last), shrunk(first))[1][0], greatest)
        self.assertEqual(forms, {"between", "above"})

    def test_kept_sharings_lie_between(self):
        for game in small_growing():
            high = game.turned()
            for row in forced_kept(game):
                self.assertIs(are_between(game, high, row), True)
            self.assertEqual(between_paper(game, high)[1], forced_kept(game)[0])

    def test_any_two_games(self):
        for low in (MOST, TURNED, wild(("a", "b", "c"), 3), STEPS):
            for high in (MOST, PAIRS, wild(("a", "b", "c"), 6), TURNED):
                for row in product(range(-1, 4), repeat=3):
                    expected = within(low, high, row)
                    self.assertIs(are_between(low, high, row), expected)
                    self.assertIs(is_between_paper(low, high, ("between", row)), expected)
                for group in all_groups(low.people):
                    self.assertIs(is_between_paper(low, high, ("above", group)), low[group] > high[group])

    def test_both_forms_for_games_of_other_kinds(self):
        # [13.1] is told for growing and shrinking games alone: no group is above, but there are no amounts.
        self.assertEqual(forced_between(MOST, MOST), [])
        self.assertTrue(all(not is_between_paper(MOST, MOST, ("above", group)) for group in all_groups(MOST.people)))
        self.assertIs(are_between(MOST, MOST.turned(), (2, 2, 2)), True)


class Judged(unittest.TestCase):
    def test_amounts(self):
        for value in ((2, 2, 2), (0, 2, 4), (4, 2, 0), (1, 2, 3)):
            self.assertIs(unchanged(self, are_between, PAIRS, TURNED, value), True)
        wrong = (
            (2, 2, 3), (2, 2, 1), (5, 1, 0), (-1, 3, 4), (2, 2), (2, 2, 2, 0), [2, 2, 2], (2, 2, None), (2, 2, "2"), (True, 2, 3), (2, 4, False),
            (2, 2, (2,)), 6, None, True, "222", {0: 2, 1: 2, 2: 2}, ((2, 2, 2),), (), PAIRS, (10 ** 60, 2, 4 - 10 ** 60), ("between", (2, 2, 2)),
        )
        for value in wrong:
            self.assertIs(are_between(PAIRS, TURNED, value), False, value)
            self.assertIs(is_between_paper(PAIRS, TURNED, ("between", value)), False, value)
        for value in strange():
            self.assertIs(are_between(PAIRS, TURNED, value), False)
            flat = Game.additive(("a", "b", "c"), (0, 0, 0))
            self.assertIs(are_between(flat, flat, value), value == (0, 0, 0))

    def test_papers(self):
        row, group = (2, 2, 2), ("a", "b", "c")
        wrong = (
            ("between",), ("between", row, ()), ["between", row], (row, "between"), ("Between", row), ("above", row), (row,), row, "between",
            ("between", group), ("above", group), ("above", ()), ("above", ("a",)), (None, row), (True, row), {"between": row}, (PAIRS, row),
            ("between", list(row)), ("between", row + (0,)), ("beside", row), (("between", row),), None, (), PAIRS, ("mixture", row),
        )
        for value in wrong:
            self.assertIs(is_between_paper(PAIRS, TURNED, value), False, value)
        self.assertIs(unchanged(self, is_between_paper, PAIRS, TURNED, ("between", row)), True)
        self.assertIs(unchanged(self, is_between_paper, STEPS, TURNED, ("above", group)), True)
        wrong = (
            ("above",), ("above", group, group), ["above", group], (group, "above"), ("above", list(group)), ("above", group[::-1]), ("above", "abc"),
            ("above", ("a", "b")), ("above", ()), ("above", None), ("above", (group,)), ("above", group + ("d",)), ("Above", group), (group,), group,
            ("between", group), ("between", row), ("leaves", group), (None, group), ("above", ("a", "b", "b", "c")),
        )
        for value in wrong:
            self.assertIs(is_between_paper(STEPS, TURNED, value), False, value)
        for value in strange():
            for put in (value, ("between", value), ("above", value), (value, row), (value,)):
                self.assertIs(is_between_paper(PAIRS, TURNED, put), False)


class Split(unittest.TestCase):
    def sums(self):
        """Pairs of growing games of the same persons, with kept shares of their sum."""
        found = []
        for one in small_growing():
            for other in (one, growing(one.people, 2), by_size(one.people, [0] * len(one) + [3])):
                found += [(one, other, row) for row in forced_kept_some(one, other)]
        return found

    def test_by_force(self):
        for one, other, amounts in self.sums():
            expected = []
            for first in forced_kept(one):
                second = tuple(amount - share for amount, share in zip(amounts, first))
                if not left_by_hand(other, second):
                    expected.append((first, second))
            # [13.3]
            self.assertTrue(expected)
            self.assertEqual(unchanged(self, split, one, other, amounts), min(expected))
            for value in expected[:20]:
                self.assertIs(is_split(one, other, amounts, value), True)
            for first in forced_kept(one)[:20]:
                second = tuple(amount - share for amount, share in zip(amounts, first))
                self.assertIs(is_split(one, other, amounts, (first, second)), (first, second) in expected)

    def test_great_games(self):
        games = growing_games()
        for people in PEOPLE:
            told = [game for game in games if game.people == people]
            for one, other in zip(told, told[1:] + told[:1]):
                for order in all_orders(people)[:120:17]:
                    for last in all_orders(people)[:120:29]:
                        mine, others = walked(one, order), walked(other, last)
                        amounts = tuple(share + more for share, more in zip(mine, others))
                        self.hold(one, other, amounts, (mine, others))
                for mine in some_kept(one, 2):
                    for others in some_kept(other, 2):
                        self.hold(one, other, tuple(share + more for share, more in zip(mine, others)), (mine, others))

    def hold(self, one, other, amounts, known):
        told = split(one, other, amounts)
        self.assertEqual((told.__class__, len(told)), (tuple, 2))
        first, second = told
        self.assertEqual((left_by_hand(one, first), left_by_hand(other, second)), ([], []))
        self.assertEqual((sum(first), sum(second)), (one[one.people], other[other.people]))
        self.assertEqual(tuple(share + more for share, more in zip(first, second)), amounts)
        self.assertTrue(first <= known[0])
        self.assertIs(is_split(one, other, amounts, told), True)
        self.assertIs(is_split(one, other, amounts, known), True)

    def test_sums_of_kept_sharings_are_kept(self):
        for one in small_growing():
            other = growing(one.people, 2)
            both = one + other
            self.assertEqual(broken_by_hand(both), [])
            for mine in forced_kept(one)[:12]:
                for others in some_kept(other, 2):
                    amounts = tuple(share + more for share, more in zip(mine, others))
                    self.assertEqual(left_by_hand(both, amounts), [])
                    self.assertIs(is_split(one, other, amounts, (mine, others)), True)

    def test_values_that_are_none(self):
        wrong = (
            ((2, 2, 2), (3, 3, 4)), ((2, 2, 2), (3, 4, 2)), ((3, 3, 3), (2, 2, 2)), ((2, 2, 2),), ((2, 2, 2), (3, 3, 3), ()), [(2, 2, 2), (3, 3, 3)],
            ([2, 2, 2], (3, 3, 3)), ((2, 2, 2), [3, 3, 3]), ((2, 2), (3, 3)), ((2, 2, 2, 0), (3, 3, 3, 0)), ((2, 2, 2), None), (None, (3, 3, 3)),
            ((5, 1, 0), (0, 4, 5)), ((6, 0, 0), (-1, 5, 5)), ((2, 2, 2), (3, 3, "3")), ((True, 2, 3), (4, 3, 2)), (), None, True, 15, "ab",
            {(2, 2, 2): (3, 3, 3)}, (2, 2, 2), ((2, 2, 2), PAIRS), PAIRS, ((-2, 4, 4), (7, 1, 1)), (((2, 2, 2), (3, 3, 3)),),
        )
        for value in wrong:
            self.assertIs(is_split(PAIRS, STEPS, (5, 5, 5), value), False, value)
        for value in (((2, 2, 2), (3, 3, 3)), ((1, 2, 3), (4, 3, 2)), ((1, 3, 2), (4, 2, 3))):
            self.assertIs(unchanged(self, is_split, PAIRS, STEPS, (5, 5, 5), value), not left_by_hand(STEPS, value[1]))
        for value in strange():
            for put in (value, (value, (3, 3, 3)), ((2, 2, 2), value), (value,)):
                self.assertIs(is_split(PAIRS, STEPS, (5, 5, 5), put), False)

    def test_all_that_are_split(self):
        one = Game.additive(("a", "b"), (1, 0))
        self.assertIs(is_split(one, one, (2, 0), ((1, 0), (1, 0))), True)
        for value in (((True, 0), (1, 0)), ((1, 0), (1, False)), ((1, False), (1, 0)), ((2, 0), (0, 0))):
            self.assertIs(is_split(one, one, (2, 0), value), False)


def forced_kept_some(one, other):
    """Some kept shares of the sum of two games, from the first ones to the last ones."""
    kept = forced_kept(one + other)
    return kept[::max(1, len(kept) // 7)] + kept[-1:]


class Errors(unittest.TestCase):
    def no_amounts_for(self, one, other):
        right = (one[one.people] + other[other.people],) + (0,) * (len(one) - 1)
        near = [
            right[:-1] + (right[-1] + 1,), right[:-1] + (right[-1] - 1,), right + (0,), right[1:], list(right), right[:-1] + (None,), (right,),
            right[:-1] + (str(right[-1]),), dict(enumerate(right)), (),
        ]
        if len(right) > 1:
            near += [right[:-1] + (False,), (10 ** 60, right[0] - 10 ** 60) + right[2:], (True, right[0] - 1) + right[2:], right[:1]]
        return [value for value in strange() if value != right] + near

    def test_wrong_arguments(self):
        for low in (PAIRS, MOST, wild(("a", "b"), 4), wild(PEOPLE[-1], 2)):
            for high in (low, low.turned()):
                row = (0,) * (len(low) - 1)
                more = {
                    "other": (lambda game: no_games(), InvalidGame, None),
                    "amounts": (lambda game: self.no_amounts_for(low, high), InvalidSharing, None),
                }
                amounts = (low[low.people] + high[high.people],) + row
                refused(self, between_paper, (low, high), "game other", more)
                refused(self, span, (low, high, low.people[0]), "game other person", more)
                refused(self, split, (low, high, amounts), "game other amounts", more)
                for value in (("above", ("a",)), amounts, None, [1]):
                    refused(self, are_between, (low, high, value), "game other -", more)
                    refused(self, is_between_paper, (low, high, value), "game other -", more)
                    refused(self, is_split, (low, high, amounts, value), "game other amounts -", more)

    def test_other_persons(self):
        for low in (PAIRS, MOST, TURNED):
            for high in OTHERS + tuple(game.turned() for game in OTHERS):
                amounts = (low[low.people] + high[high.people], 0, 0)
                for args in ((between_paper, low, high), (between_paper, high, low), (are_between, low, high, (2, 2, 2)), (span, low, high, "a")):
                    self.assertIs(raised(*args).__class__, InvalidOperation, args)
                for value in (("above", ("a",)), ("between", (2, 2, 2)), None, [1]):
                    self.assertIs(raised(is_between_paper, low, high, value).__class__, InvalidOperation)
                    self.assertIs(raised(is_split, low, high, amounts, value).__class__, InvalidOperation)
                self.assertIs(raised(split, low, high, amounts).__class__, InvalidOperation)
                # These come ahead: the person is one of the first game, and the amounts sum to both worths.
                found = raised(span, low, high, "zz")
                self.assertEqual((found.__class__, found.name), (UnknownName, "zz"))
                for call in (split, lambda one, other, row: is_split(one, other, row, None)):
                    self.assertIs(raised(call, low, high, (amounts[0] + 1, 0, 0)).__class__, InvalidSharing)
                    self.assertIs(raised(call, low, high, (amounts[0], 0)).__class__, InvalidSharing)
                    self.assertIs(raised(call, low, high, None).__class__, InvalidSharing)

    def test_a_person_of_the_second_game_alone(self):
        found = raised(span, PAIRS, FOUR, "d")
        self.assertEqual((found.__class__, found.name), (UnknownName, "d"))

    def growing_first(self, game, call, *args):
        found = raised(call, *args)
        self.assertIs(found.__class__, NotGrowing, (call, args))
        self.assertEqual(found.test, broken_by_hand(game)[0])

    def test_not_growing(self):
        for game in other_games():
            people = game.people
            flat = Game.additive(people, (0,) * len(people))
            for high in (flat, game, game.turned(), growing(people, 2)):
                self.growing_first(game, between_paper, game, high)
                self.growing_first(game, span, game, high, people[0])
                amounts = (game[people] + high[people],) + (0,) * (len(people) - 1)
                for row in (amounts, amounts[::-1]):
                    self.growing_first(game, split, game, high, row)
                    self.growing_first(game, is_split, game, high, row, None)
            for one in (flat, growing(people, 2)):
                amounts = (game[people] + one[people],) + (0,) * (len(people) - 1)
                self.growing_first(game, split, one, game, amounts)
                self.growing_first(game, is_split, one, game, amounts, None)
            # With both of them not growing, the first one decides.
            other = wild(people, 11)
            amounts = (game[people] + other[people],) + (0,) * (len(people) - 1)
            self.growing_first(game, split, game, other, amounts)

    def test_not_shrinking(self):
        for low in (PAIRS, STEPS, Game.additive(("a", "b", "c"), (0, 0, 0))):
            for high in (PAIRS, STEPS, MOST, wild(("a", "b", "c"), 1), TURNED.with_worth(("a",), -90)):
                self.assertIs(raised(between_paper, low, high).__class__, InvalidOperation)
                self.assertIs(raised(span, low, high, "a").__class__, InvalidOperation)
        # One gap above 0 is enough.
        self.assertIs(raised(between_paper, PAIRS, TURNED.with_worth(("a", "b", "c"), 6)), None)
        self.assertIs(raised(between_paper, PAIRS, TURNED.with_worth(("a", "b", "c"), 9)).__class__, InvalidOperation)
        self.assertIs(raised(between_paper, MOST, PAIRS).__class__, NotGrowing)

    def test_no_amounts_between(self):
        for person in ("a", "b", "c"):
            self.assertIs(raised(span, STEPS, TURNED, person).__class__, InvalidOperation)

    def test_left(self):
        for one, other in ((PAIRS, STEPS), (STEPS, PAIRS), (PAIRS, PAIRS), (growing(PEOPLE[-1], 2), growing(PEOPLE[-1], 7))):
            people = one.people
            both = one + other
            for at in range(len(people)):
                amounts = [0] * len(people)
                amounts[at] = both[people]
                for more in (0, 1, 10 ** 40):
                    amounts[0], amounts[-1] = amounts[0] + more, amounts[-1] - more
                    expected = left_by_hand(both, amounts)
                    for call, rest in ((split, ()), (is_split, (None,)), (is_split, (((0,), (0,)),))):
                        found = raised(call, one, other, tuple(amounts), *rest)
                        self.assertIs(found.__class__, Left)
                        self.assertEqual(found.group, expected[0])


if __name__ == "__main__":
    unittest.main()
