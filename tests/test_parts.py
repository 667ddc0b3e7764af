"""[12.1], [12.2], [0.6], [1.3], stage 12: parts of a game."""

import unittest

from joinmore.base.games import Game
from joinmore.errors import InvalidWeights
from joinmore.more.parts import does_split, freedom, is_short_paper, part_games, part_of, parts, short_paper, splitting
from joinmore.pay.mixtures import mix
from tests.cases import (
    MOST, PAIRS, PEOPLE, STEPS, all_groups, all_orders, by_size, faults_of, forced_kept, growing_games, high_games, mixes_to, other_games,
    same, sharing_of, small_growing, some_kept, some_left, strange, walked, wild,
)
from tests.refusals import left, not_growing, raised, refused, unchanged

TWO = PAIRS.beside(Game(("d",), {("d",): 5}))


def rest_of(game, group):
    return tuple(person for person in game.people if person not in group)


def split_by_hand(game):
    return [group for group in all_groups(game.people) if game[group] + game[rest_of(game, group)] == game[game.people]]


def parts_by_hand(game):
    """The groups that split and have in them no other one but ()."""
    groups = [group for group in split_by_hand(game) if group]
    return [group for group in groups if not any(set(other) < set(group) for other in groups)]


def beside_games():
    """Growing games of several parts, their parts mixed among the names."""
    flat = Game.additive(("b", "y"), (4, -1))
    return [
        TWO, STEPS.renamed({"a": "c", "b": "e", "c": "k"}).beside(flat), by_size(("b", "d"), [0, 1, 3]).beside(by_size(("a", "c"), [0, -2, 7])),
        PAIRS.beside(by_size(("aa", "z"), [0, 0, 10 ** 9 - 6])), by_size(("b", "d"), [0, 1, 3]).beside(flat.renamed({"b": "c"})),
        by_size(("a", "e"), [0, 1, 3]).beside(by_size(("b", "d"), [0, 0, 1])).beside(Game(("c",), {("c",): 0})),
    ]


def all_growing():
    return growing_games() + beside_games()


class Examples(unittest.TestCase):
    def test_examples(self):
        two = PAIRS.beside(Game(("d",), {("d",): 5}))
        told = [parts(PAIRS), parts(two), splitting(two), freedom(two), part_of(two, "d"), parts(Game.additive(("a", "b"), (2, -1)))]
        self.assertEqual(told, [(("a", "b", "c"),), (("a", "b", "c"), ("d",)), ((), ("a", "b", "c"), ("a", "b", "c", "d"), ("d",)), 2, ("d",), (("a",), ("b",))])
        told = [part_games(two)[0] == PAIRS, does_split(PAIRS, ("a",)), is_short_paper(two, (2, 2, 2, 5), ((("a", "b", "c", "d"), 1), (("c", "b", "a", "d"), 1))), len(short_paper(Game.additive(("a", "b"), (2, -1)), (2, -1)))]
        self.assertEqual(told, [True, False, True, 1])


class Splitting(unittest.TestCase):
    def test_all_groups(self):
        for game in all_growing():
            expected = split_by_hand(game)
            self.assertEqual(unchanged(self, splitting, game), tuple(expected))
            for group in all_groups(game.people):
                self.assertIs(unchanged(self, does_split, game, group), group in expected)

    def test_closed(self):
        for game in all_growing():
            told = splitting(game)
            for one in told:
                self.assertIn(rest_of(game, one), told)
                for other in told:
                    self.assertIn(tuple(sorted(set(one) | set(other))), told)
                    self.assertIn(tuple(sorted(set(one) & set(other))), told)

    def test_worths_are_sums(self):
        for game in all_growing():
            for group in splitting(game):
                for other in all_groups(game.people):
                    inner = tuple(person for person in other if person in group)
                    outer = tuple(person for person in other if person not in group)
                    self.assertEqual(game[other], game[inner] + game[outer])


class Parts(unittest.TestCase):
    def test_parts(self):
        seen = set()
        for game in all_growing():
            told = unchanged(self, parts, game)
            self.assertEqual(told, tuple(sorted(parts_by_hand(game))))
            self.assertEqual(sorted(person for part in told for person in part), list(game.people))
            for person in game.people:
                self.assertEqual([unchanged(self, part_of, game, person)], [part for part in told if person in part])
            self.assertEqual(unchanged(self, freedom, game), len(game.people) - len(told))
            seen.add((len(game.people), len(told)))
        self.assertTrue({(5, 1), (5, 2), (5, 3), (5, 5), (4, 1), (4, 2), (4, 3), (4, 4), (1, 1)} <= seen)

    def test_games_of_the_parts(self):
        for game in all_growing():
            told = unchanged(self, part_games, game)
            self.assertIsInstance(told, tuple)
            self.assertEqual([part.people for part in told], list(parts(game)))
            whole = told[0]
            for part in told[1:]:
                whole = whole.beside(part)
            self.assertEqual(whole, game)
            for part in told:
                self.assertEqual(part, game.only(part.people))
                self.assertEqual(parts(part), (part.people,))

    def test_one_unit_joins_parts(self):
        for game in beside_games():
            if game[game.people] < 10 ** 9:
                self.assertEqual(parts(game.with_worth(game.people, game[game.people] + 1)), (game.people,))


class Short(unittest.TestCase):
    def hold(self, game, sharing):
        told = unchanged(self, short_paper, game, sharing)
        self.assertEqual(faults_of(game, sharing, told, len(game.people) - len(parts_by_hand(game)) + 1), [])
        self.assertIs(is_short_paper(game, sharing, told), True)

    def test_short_papers(self):
        for game in all_growing():
            for sharing in some_kept(game, 6):
                self.hold(game, sharing)
        for game in small_growing() + [beside_games()[0]]:
            for sharing in forced_kept(game):
                self.hold(game, sharing)
        for game in high_games(PEOPLE[-1]):
            for sharing in some_kept(game, 30):
                self.hold(game, sharing)

    def test_not_fewer(self):
        # With the freedom 2, this one is no mixture of two orders, whatever their weights: it lies on no line between two pays.
        game, sharing = (PAIRS * 3).beside(Game(("d",), {("d",): 5})), (5, 5, 8, 5)
        self.assertEqual(freedom(game), 2)
        self.assertEqual(len(short_paper(game, sharing)), 3)
        for one in all_orders(game.people):
            for other in all_orders(game.people):
                ahead = [share - told for share, told in zip(sharing, walked(game, one))]
                behind = [told - share for share, told in zip(sharing, walked(game, other))]
                crossed = [ahead[x] * behind[y] - ahead[y] * behind[x] for x in range(4) for y in range(x)]
                self.assertTrue(any(crossed) or sum(x * y for x, y in zip(ahead, behind)) < 0)

    def test_right_ones_made_by_hand(self):
        a, b, c, d = TWO.people
        right = (
            ((2, 2, 2, 5), (((a, b, c, d), 1), ((c, b, a, d), 1))), ((2, 2, 2, 5), (((a, b, d, c), 7), ((d, c, b, a), 7))),
            ((2, 2, 2, 5), (((a, b, c, d), 1), ((b, d, c, a), 1), ((c, a, b, d), 1))), ((0, 2, 4, 5), (((d, a, b, c), 3),)),
            ((2, 2, 2, 5), (((a, b, c, d), 10 ** 90), ((c, b, a, d), 10 ** 90))), ((0, 2, 4, 5), (((a, b, c, d), 3), ((d, a, b, c), 1))),
        )
        for sharing, value in right:
            self.assertTrue(mixes_to(TWO, sharing, value))
            self.assertIs(unchanged(self, is_short_paper, TWO, sharing, value), True, value)

    def test_wrong_ones(self):
        a, b, c, d = TWO.people
        one, other = (a, b, c, d), (c, b, a, d)
        wrong = (
            (), ((one, 1),), ((one, 1), (other, 2)), ((other, 1), (one, 1)), ((one, 1), (one, 1)), ((one, True), (other, True)),
            ((one, 0), (other, 0)), [(one, 1), (other, 1)], ([one, 1], [other, 1]), ((list(one), 1), (other, 1)), ((one, 1), (other, 1), ()),
            ("mixture", ((one, 1), (other, 1))), ((one, 1), (other[:3], 1)), {one: 1, other: 1}, None, True, "ab", PAIRS, (one, other),
            ((one, 1, 1), (other, 1, 1)), ((one, "1"), (other, "1")), ((one, None), (other, None)), (((one, 1), (other, 1)),),
            # These mix to the sharing, but four orders are one more than the freedom and one.
            ((one, 1), ((a, b, d, c), 1), (other, 2)) + (((d, a, b, c), 1), ((d, c, b, a), 1)), ((one, 1), ((a, b, d, c), 1), (other, 1), ((d, c, b, a), 1)),
        )
        for value in wrong:
            self.assertIs(is_short_paper(TWO, (2, 2, 2, 5), value), False, value)
        self.assertTrue(mixes_to(TWO, (2, 2, 2, 5), wrong[-1]))

    def test_one_order_for_an_additive_game(self):
        for people in PEOPLE:
            flat = Game.additive(people, tuple(range(len(people))))
            for order in all_orders(people)[:6]:
                self.assertIs(is_short_paper(flat, tuple(range(len(people))), ((order, 4),)), True)
            two = tuple((order, 1) for order in all_orders(people)[:2])
            self.assertIs(is_short_paper(flat, tuple(range(len(people))), two), len(two) == 1)

    def test_values_of_all_kinds(self):
        for game in (PAIRS, TWO, Game(("k",), {("k",): 3})):
            for value in strange():
                self.assertIs(is_short_paper(game, walked(game, game.people), value), False)
                put = ((game.people, value),)
                self.assertIs(is_short_paper(game, walked(game, game.people), put), same(value, 1) or same(value, 7) or same(value, 10 ** 60))


class Errors(unittest.TestCase):
    def test_wrong_arguments(self):
        for game in (PAIRS, MOST, wild(("a", "b"), 4), wild(PEOPLE[-1], 2)):
            sharing = sharing_of(game, 2)
            refused(self, does_split, (game, game.people), "game group")
            refused(self, part_of, (game, game.people[0]), "game person")
            for call in (splitting, parts, freedom, part_games):
                refused(self, call, (game,), "game")
            refused(self, short_paper, (game, sharing), "game sharing")
            for value in ((), None, [1]):
                refused(self, is_short_paper, (game, sharing, value), "game sharing -")

    def test_not_growing(self):
        for game in other_games():
            for group in all_groups(game.people):
                not_growing(self, does_split, game, group)
            for person in game.people:
                not_growing(self, part_of, game, person)
            for call in (splitting, parts, freedom, part_games):
                not_growing(self, call, game)
            for seed in range(2):
                not_growing(self, short_paper, game, sharing_of(game, seed))
                not_growing(self, is_short_paper, game, sharing_of(game, seed), None)
        not_growing(self, short_paper, MOST, (2, 2, 2))

    def test_left(self):
        for game in all_growing():
            for sharing in some_left(game)[:6]:
                left(self, sharing, short_paper, game, sharing)
                for value in (((game.people, 1),), None):
                    left(self, sharing, is_short_paper, game, sharing, value)

    def test_what_it_tells_are_weights(self):
        self.assertIsNone(raised(mix, TWO, short_paper(TWO, (2, 2, 2, 5))))
        self.assertIs(raised(mix, TWO, ()).__class__, InvalidWeights)


if __name__ == "__main__":
    unittest.main()
