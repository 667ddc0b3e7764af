"""[19.1], [19.2], [0.5], [0.6], [1.3], stage 19: beaten sharings."""

import unittest
from fractions import Fraction

from joinmore.base.games import Game
from joinmore.errors import InvalidNumber, InvalidOperation, InvalidSharing
from joinmore.more.beaten import does_beat, is_steady_paper, needy, steady_paper
from tests.cases import (
    MOST, PAIRS, PEOPLE, STEPS, all_groups, broken_by_hand, by_size, forced_kept, games, growing_games, is_row_by_hand, left_by_hand, no_factors,
    no_groups, no_sharings, other_games, share_by_hand, sharing_of, small_growing, some_groups, some_kept, some_left, strange, wild,
)
from tests.refusals import not_growing, raised, refused, unchanged

MILLION = 10 ** 6


def beats_by_hand(game, factor, better, sharing, group):
    for person, more, share in zip(game.people, better, sharing):
        if person in group and more <= share * factor:
            return False
    return share_by_hand(game, better, group) <= game[group] * factor


def needy_by_hand(game, sharing):
    lacks = {group: Fraction(game[group] - share_by_hand(game, sharing, group), len(group)) for group in some_groups(game.people)}
    most = max(lacks.values())
    return tuple(group for group in lacks if lacks[group] == most) if most > 0 else ()


def leaves_times(game, factor, row):
    """The groups that have less than their worth times a factor."""
    return [group for group in all_groups(game.people) if share_by_hand(game, row, group) < factor * game[group]]


def near_sharings(game):
    """Sharings of a game, kept ones and others."""
    found = [sharing_of(game, seed) for seed in range(5)]
    if not broken_by_hand(game):
        found += some_kept(game, 2) + some_left(game)
    return found


def is_right(game, sharing, value):
    """Whether a value is a paper of the sharing, by hand."""
    if value.__class__ is not tuple:
        return False
    if value == ("kept",):
        return left_by_hand(game, sharing) == []
    if len(value) != 4 or value[0] != "beaten":
        return False
    _, group, factor, better = value
    if group not in some_groups(game.people) or factor.__class__ is not int or not 1 <= factor <= MILLION:
        return False
    if not is_row_by_hand(better, len(game)) or sum(better) != factor * game[game.people] or leaves_times(game, factor, better):
        return False
    return beats_by_hand(game, factor, better, sharing, group)


class Beats(unittest.TestCase):
    def test_by_sums(self):
        seen = set()
        for game in games() + growing_games()[::2] + other_games():
            for sharing in near_sharings(game)[:8]:
                for factor in (1, 2, 5, MILLION):
                    rows = [tuple(share * factor for share in other) for other in near_sharings(game)[:4]]
                    for group in some_groups(game.people):
                        rows.append(self.pushed(game, factor, sharing, group))
                    for row in rows:
                        for group in some_groups(game.people)[::3]:
                            if not is_row_by_hand(row, len(game)):
                                continue
                            expected = beats_by_hand(game, factor, row, sharing, group)
                            self.assertIs(does_beat(game, factor, row, sharing, group), expected)
                            seen.add((len(game), expected))
        self.assertTrue({(many, told) for many in (2, 3, 4, 5) for told in (True, False)} <= seen)

    def pushed(self, game, factor, sharing, group):
        """A row in which each person of a group has 1 more than its share times the factor; the last other one pays."""
        row = [share * factor + (1 if person in group else 0) for person, share in zip(game.people, sharing)]
        others = [at for at, person in enumerate(game.people) if person not in group]
        row[others[-1] if others else 0] -= len(group)
        return tuple(row)

    def test_by_one(self):
        self.assertIs(unchanged(self, does_beat, PAIRS, 1, (4, 1, 1), (6, 0, 0), ("b", "c")), True)
        # One of the group has just as much, or the group cannot pay it.
        self.assertIs(does_beat(PAIRS, 2, (9, 3, 0), (6, 0, 0), ("b", "c")), False)
        self.assertIs(does_beat(PAIRS, 2, (7, 3, 2), (6, 0, 0), ("b", "c")), False)
        self.assertIs(does_beat(PAIRS, 2, (8, 3, 1), (6, 0, 0), ("b", "c")), True)
        self.assertIs(does_beat(PAIRS, 2, (8, 3, 1), (6, 0, 0), ("b",)), False)
        self.assertIs(does_beat(PAIRS, MILLION, (5 * MILLION, 1, MILLION - 1), (6, 0, 0), ("b", "c")), True)
        # The better sharing need not be kept.
        self.assertIs(does_beat(STEPS, 1, (0, 1, 8), (9, 0, 0), ("b",)), True)

    def test_a_kept_sharing_is_beaten_by_none(self):
        for game in growing_games()[::3]:
            for sharing in some_kept(game, 1):
                for factor in (1, 3, MILLION):
                    for group in some_groups(game.people):
                        rows = [self.pushed(game, factor, sharing, group)] + [tuple(share * factor for share in other) for other in some_kept(game, 2)]
                        self.assertTrue(all(does_beat(game, factor, row, sharing, group) is False for row in rows))
        for factor in (1, 2):
            for sharing in forced_kept(PAIRS):
                for row in forced_kept(PAIRS * factor):
                    self.assertTrue(all(does_beat(PAIRS, factor, row, sharing, group) is False for group in some_groups(PAIRS.people)))

    def test_each_other_one_is_beaten(self):
        for game in games() + other_games():
            for sharing in near_sharings(game):
                for group in left_by_hand(game, sharing):
                    if group == game.people:
                        continue
                    many, lack = len(group), game[group] - share_by_hand(game, sharing, group)
                    row = [many * share + lack if person in group else 0 for person, share in zip(game.people, sharing)]
                    row[[at for at, person in enumerate(game.people) if person not in group][0]] = many * game[game.people] - sum(row)
                    self.assertIs(does_beat(game, many, tuple(row), sharing, group), True)


class Needy(unittest.TestCase):
    def test_by_fractions(self):
        seen = set()
        for game in games() + growing_games() + other_games():
            for sharing in near_sharings(game):
                expected = needy_by_hand(game, sharing)
                self.assertEqual(unchanged(self, needy, game, sharing), expected)
                seen.add(min(len(expected), 2))
                self.assertEqual(expected == (), left_by_hand(game, sharing) == [])
        self.assertEqual(seen, {0, 1, 2})

    def test_by_hand(self):
        self.assertEqual(needy(PAIRS, (8, -1, -1)), (("b", "c"),))
        self.assertEqual(needy(Game.additive(("a", "b", "c"), (0, 0, 0)), (-2, -2, 4)), (("a",), ("a", "b"), ("b",)))
        self.assertEqual(needy(by_size(("a", "b"), [0, 0, 10 ** 9]), (10 ** 59, 10 ** 9 - 10 ** 59)), (("b",),))


class Papers(unittest.TestCase):
    def test_of_growing_games(self):
        seen = set()
        for game in growing_games() + small_growing():
            for sharing in near_sharings(game):
                told = unchanged(self, steady_paper, game, sharing)
                self.assertTrue(is_right(game, sharing, told), (game, sharing, told))
                self.assertIs(is_steady_paper(game, sharing, told), True)
                self.assertEqual(told == ("kept",), left_by_hand(game, sharing) == [])
                if told != ("kept",):
                    self.assertEqual(leaves_times(game, told[2], told[3]), [])
                    self.assertIs(is_steady_paper(game, sharing, ("kept",)), False)
                    self.more_papers(game, sharing, told)
                seen.add((len(game), told[0]))
        self.assertEqual(len(seen), 9)

    def more_papers(self, game, sharing, told):
        """Papers with a multiple of the factor, and with other groups, are judged as by hand."""
        word, group, factor, better = told
        for many in (2, 7, MILLION // factor):
            more = (word, group, factor * many, tuple(share * many for share in better))
            self.assertIs(is_steady_paper(game, sharing, more), True)
        for many in (MILLION, MILLION + 1):
            more = (word, group, factor * many, tuple(share * many for share in better))
            self.assertIs(is_steady_paper(game, sharing, more), factor * many <= MILLION)
        for other in all_groups(game.people):
            self.assertIs(is_steady_paper(game, sharing, (word, other, factor, better)), is_right(game, sharing, (word, other, factor, better)))

    def test_all_papers_of_small_games(self):
        right = 0
        for game in (PAIRS, STEPS, by_size(("a", "b"), [0, 1, 4]), MOST, Game.additive(("a", "b"), (2, -1))):
            for factor in (1, 2):
                rows = forced_kept(game * factor)
                for sharing in (sharing_of(game, 2), sharing_of(game, 5), (game[game.people],) + (0,) * (len(game) - 1)):
                    for row in rows:
                        for group in all_groups(game.people):
                            value = ("beaten", group, factor, row)
                            expected = is_right(game, sharing, value)
                            self.assertIs(is_steady_paper(game, sharing, value), expected)
                            right += expected
        self.assertTrue(right > 50)

    def test_games_that_are_not_growing(self):
        # No kept sharing of MOST, or of a multiple, beats this one: it is not steady.
        self.assertEqual(needy(MOST, (0, 4, 2)), (("a", "c"),))
        for factor in (1, 2, 3):
            row = (2 * factor,) * 3
            for group in all_groups(MOST.people):
                self.assertIs(is_steady_paper(MOST, (0, 4, 2), ("beaten", group, factor, row)), False)
        self.assertIs(is_steady_paper(MOST, (2, 2, 2), ("kept",)), True)
        self.assertIs(is_steady_paper(MOST, (0, 4, 2), ("kept",)), False)
        self.assertIs(is_steady_paper(MOST, (6, 0, 0), ("beaten", ("b", "c"), 1, (2, 2, 2))), True)
        for game in other_games():
            for sharing in near_sharings(game):
                self.assertIs(is_steady_paper(game, sharing, ("kept",)), left_by_hand(game, sharing) == [])

    def test_near_papers(self):
        sharing, group, row = (9, 0, 0), ("b", "c"), (8, 5, 5)
        self.assertIs(unchanged(self, is_steady_paper, STEPS, sharing, ("beaten", group, 2, row)), True)
        wrong = (
            ("beaten", group, 2, (8, 5, 4)), ("beaten", group, 2, (8, 5, 6)), ("beaten", group, 2, (7, 6, 5)), ("beaten", group, 2, (9, 4, 5)),
            ("beaten", group, 1, row), ("beaten", group, 3, row), ("beaten", group, 0, row), ("beaten", group, -2, row), ("beaten", group, True, (4, 2, 3)),
            ("beaten", group, 2.0, row), ("beaten", group, "2", row), ("beaten", group, None, row), ("beaten", group, 2, list(row)), ("beaten", group, 2, row + (0,)),
            ("beaten", group, 2, row[:2]), ("beaten", list(group), 2, row), ("beaten", ("c", "b"), 2, row), ("beaten", (), 2, row), ("beaten", ("b",), 2, row),
            ("beaten", ("a", "b", "c"), 2, row), ("beaten", "bc", 2, row), ("beaten", group, 2), ("beaten", group, 2, row, ()), ["beaten", group, 2, row],
            ("Beaten", group, 2, row), ("kept", group, 2, row), (None, group, 2, row), ("beaten", 2, group, row), ("beaten", group, row, 2), ("kept",), "kept", (),
            None, True, ["kept"], ("kept", ()), (("kept",),), ("beaten", group, 2, None), ("beaten", group, 2, (8, 5, None)), ("beaten", None, 2, row),
            ("beaten", group, 2, (8, "5", 5)), ("beaten", group, 2, ((8,), 5, 5)), {"beaten": group}, PAIRS, ("beaten", PAIRS, 2, row), ("beaten", group, PAIRS, row),
            ("beaten", group, MILLION + 1, (4 * MILLION + 4, 2 * MILLION + 2, 3 * MILLION + 3)), ("beaten", group, 10 ** 60, row), ("beaten", ("b", "z"), 2, row),
        )
        for value in wrong:
            self.assertIs(is_steady_paper(STEPS, sharing, value), False, value)
        self.assertIs(is_steady_paper(STEPS, sharing, ("beaten", group, 1, (4, 2, 3))), True)
        self.assertIs(is_steady_paper(STEPS, sharing, ("beaten", group, MILLION, (4 * MILLION, 2 * MILLION, 3 * MILLION))), True)
        for value in (["kept"], "kept", ("kept", ()), (("kept",),), ("Kept",), None, True, ("beaten",), ("beaten", ("a",), 1, (3, 3, 3))):
            self.assertIs(is_steady_paper(STEPS, (3, 3, 3), value), False)

    def test_true_is_not_one(self):
        game = by_size(("a", "b"), [0, 1, 2])
        self.assertIs(is_steady_paper(game, (0, 2), ("beaten", ("a",), 1, (1, 1))), True)
        for value in (("beaten", ("a",), True, (1, 1)), ("beaten", ("a",), 1, (True, 1)), ("beaten", ("a",), 1, (1, True))):
            self.assertIs(is_steady_paper(game, (0, 2), value), False)

    def test_values_of_all_kinds(self):
        for game in (PAIRS, MOST, wild(("k",), 1), wild(PEOPLE[-1], 2)):
            sharing = sharing_of(game, 2)
            for value in strange():
                for put in (value, (value,), ("beaten", value, 1, sharing), ("beaten", ("a",), value, sharing), ("beaten", ("a",), 1, value), (value,) * 4):
                    self.assertIs(is_steady_paper(game, sharing, put), is_right(game, sharing, put))


class Errors(unittest.TestCase):
    def test_wrong_arguments(self):
        more = {"factor": (lambda game: no_factors(MILLION), InvalidNumber, "value")}
        for game in (PAIRS, MOST, wild(("a", "b"), 4), wild(PEOPLE[-1], 2)):
            sharing = sharing_of(game, 2)
            refused(self, does_beat, (game, 1, sharing, sharing, game.people), "game factor sharing sharing some", more)
            refused(self, needy, (game, sharing), "game sharing")
            refused(self, steady_paper, (game, sharing), "game sharing")
            for value in (("kept",), None, [1]):
                refused(self, is_steady_paper, (game, sharing, value), "game sharing -")

    def test_sharings_of_another_multiple(self):
        for factor in (1, 2, MILLION):
            row = tuple(share * factor for share in (1, 2, 3))
            self.assertIsNone(raised(does_beat, PAIRS, factor, row, (1, 2, 3), ("a",)))
            for other in (1, 2, 3, MILLION - 1, MILLION):
                if other != factor:
                    self.assertIs(raised(does_beat, PAIRS, other, row, (1, 2, 3), ("a",)).__class__, InvalidSharing)
            if factor > 1:
                # The sharing that is beaten is one of the game itself.
                self.assertIs(raised(does_beat, PAIRS, factor, row, row, ("a",)).__class__, InvalidSharing)
        for value in no_sharings(PAIRS):
            self.assertIs(raised(does_beat, PAIRS, 2, value, (1, 2, 3), ("a",)).__class__, InvalidSharing)
        for value in no_groups(PAIRS.people) + [()]:
            self.assertIs(raised(does_beat, PAIRS, 2, (2, 4, 6), (1, 2, 3), value).__class__, InvalidOperation)

    def test_not_growing(self):
        for game in other_games():
            for seed in range(3):
                not_growing(self, steady_paper, game, sharing_of(game, seed))
                self.assertIsNone(raised(needy, game, sharing_of(game, seed)))
                self.assertIsNone(raised(is_steady_paper, game, sharing_of(game, seed), None))


if __name__ == "__main__":
    unittest.main()
