"""[10.1], [0.6], [1.3], stage 10: moves between kept sharings."""

import time
import unittest

from joinmore.base.games import Game
from joinmore.errors import InvalidGame, InvalidOperation, Left, NotGrowing, TooMany, UnknownName
from joinmore.more.moves import MAX_KEPT, distance, getter_for, is_way, kept_sharings, moved, moves, way
from tests.cases import (
    MOST, PAIRS, PEOPLE, STEPS, by_dividends, by_size, estate_like, forced_kept, given_by_hand, growing_games, high_games,
    left_by_hand, other_games, pairs_of, room_by_hand, same, sharing_of, small_growing, some_kept, some_left, strange, walked, wild,
)
from tests.refusals import left, not_growing, raised, refused, unchanged


class Examples(unittest.TestCase):
    def test_examples(self):
        told = [moves(PAIRS, (0, 2, 4)), moved(PAIRS, (0, 2, 4), "c", "b"), distance(PAIRS, (0, 2, 4), (2, 2, 2)), getter_for(PAIRS, (0, 2, 4), (2, 2, 2), "c"), way(PAIRS, (0, 2, 4), (2, 2, 2))]
        self.assertEqual(told, [(("b", "a"), ("c", "a"), ("c", "b")), (0, 3, 3), 2, "a", (("c", "a"), ("c", "a"))])
        told = [len(kept_sharings(PAIRS)), kept_sharings(Game.additive(("a", "b"), (2, -1))), is_way(PAIRS, (0, 2, 4), (1, 2, 3), (("c", "b"), ("b", "a"))), is_way(PAIRS, (0, 2, 4), (0, 2, 4), ())]
        self.assertEqual(told, [19, ((2, -1),), False, True])
        with self.assertRaises(NotGrowing) as caught:
            moves(MOST, (2, 2, 2))
        self.assertEqual(caught.exception.test, (("a",), "b", "c"))
        self.assertEqual(MAX_KEPT, 2000)


def distance_by_hand(one, other):
    return sum(max(0, share - aim) for share, aim in zip(one, other))


def near_by(game, sharing, span=6):
    """Kept sharings not far from a kept one."""
    found = [sharing]
    for step, (giver, getter) in enumerate(pairs_of(game.people)):
        spot = found[-1]
        found.append(given_by_hand(game, spot, giver, getter, min(span + step, room_by_hand(game, spot, giver, getter))))
    return found[1:]


class Moves(unittest.TestCase):
    def test_all_pairs_of_persons(self):
        for game in growing_games():
            for sharing in some_kept(game):
                behind = {move: given_by_hand(game, sharing, move[0], move[1], 1) for move in pairs_of(game.people)}
                expected = [move for move in sorted(behind) if not left_by_hand(game, behind[move])]
                self.assertEqual(unchanged(self, moves, game, sharing), tuple(expected))
                for move in behind:
                    if move in expected:
                        self.assertEqual(unchanged(self, moved, game, sharing, *move), behind[move])
                    else:
                        self.assertIs(raised(moved, game, sharing, *move).__class__, InvalidOperation)

    def test_no_moves(self):
        self.assertEqual(moves(Game(("k",), {("k",): 7}), (7,)), ())
        self.assertEqual(moves(Game.additive(("a", "b"), (2, -1)), (2, -1)), ())


class Distance(unittest.TestCase):
    def test_distances(self):
        for game in growing_games():
            told = some_kept(game)
            for one in told:
                for other in told:
                    self.assertEqual(unchanged(self, distance, game, one, other), distance_by_hand(one, other))
        self.assertEqual(distance(PAIRS, (0, 2, 4), (4, 2, 0)), 4)
        self.assertEqual(distance(PAIRS, (0, 2, 4), (0, 2, 4)), 0)


class Getters(unittest.TestCase):
    def hold(self, game, one, other):
        for giver, share, aim in zip(game.people, one, other):
            if share <= aim:
                self.assertIs(raised(getter_for, game, one, other, giver).__class__, InvalidOperation)
                continue
            getter = unchanged(self, getter_for, game, one, other, giver)
            self.assertIn(getter, game.people)
            at = game.people.index(getter)
            self.assertTrue(one[at] < other[at])
            self.assertEqual(left_by_hand(game, given_by_hand(game, one, giver, getter, 1)), [])
            self.assertEqual(left_by_hand(game, given_by_hand(game, other, getter, giver, 1)), [])

    def test_each_two_of_small_games(self):
        for game in small_growing():
            kept = forced_kept(game)[:24]
            for one in kept:
                for other in kept:
                    self.hold(game, one, other)

    def test_greater_games(self):
        for game in growing_games():
            kept = some_kept(game)
            for one in kept:
                for other in kept:
                    self.hold(game, one, other)


class Ways(unittest.TestCase):
    def hold(self, game, one, other):
        told = way(game, one, other)
        self.assertIsInstance(told, tuple)
        self.assertEqual(len(told), distance_by_hand(one, other))
        spot = one
        for move in told:
            self.assertIn(move, pairs_of(game.people))
            spot = given_by_hand(game, spot, move[0], move[1], 1)
            self.assertEqual(left_by_hand(game, spot), [])
        self.assertEqual(spot, other)
        self.assertIs(is_way(game, one, other, told), True)
        if told:
            self.assertIs(is_way(game, one, other, told[1:]), False)
            self.assertIs(is_way(game, one, other, told + told[:1]), False)
            self.assertIs(is_way(game, one, other, ()), False)

    def test_each_two_of_small_games(self):
        for game in small_growing():
            kept = forced_kept(game)[::3]
            for one in kept[:12]:
                for other in kept[-12:]:
                    self.hold(game, one, other)

    def test_greater_games(self):
        for game in growing_games():
            for one in some_kept(game, 2):
                told = near_by(game, one)
                for other in told[-2:]:
                    self.hold(game, one, other)
                    self.hold(game, other, one)

    def test_long_ways(self):
        game = by_size(("a", "b", "c"), [0, 0, 0, 30000])
        told = way(game, (30000, 0, 0), (0, 10000, 20000))
        self.assertEqual(len(told), 30000)
        self.assertEqual((told.count(("a", "b")), told.count(("a", "c"))), (10000, 20000))
        self.assertIs(is_way(game, (30000, 0, 0), (0, 10000, 20000), told), True)
        self.assertIs(is_way(game, (30000, 0, 0), (0, 10000, 20000), (("a", "b"), ("a", "c"), ("a", "c")) * 10000), True)
        self.assertIs(is_way(game, (30000, 0, 0), (0, 10000, 20000), (("a", "b"), ("a", "c"), ("a", "b")) * 10000), False)
        for game in high_games(PEOPLE[-1]):
            one = walked(game, game.people)
            self.assertEqual(way(game, one, one), ())
            self.assertIs(is_way(game, one, walked(game, game.people[::-1]), (("a", "b"),) * 40), False)

    def test_right_ways_made_by_hand(self):
        right = (
            ((0, 2, 4), (1, 2, 3), (("c", "a"),)), ((0, 2, 4), (2, 2, 2), (("c", "a"), ("c", "a"))), ((2, 2, 2), (2, 2, 2), ()),
            ((0, 2, 4), (1, 3, 2), (("c", "a"), ("c", "b"))), ((0, 2, 4), (1, 3, 2), (("c", "b"), ("c", "a"))),
            ((0, 2, 4), (4, 2, 0), (("c", "a"),) * 4), ((4, 0, 2), (0, 4, 2), (("a", "b"),) * 4),
            ((0, 3, 3), (3, 0, 3), (("b", "a"), ("b", "a"), ("b", "a"))),
        )
        for one, other, value in right:
            self.assertIs(unchanged(self, is_way, PAIRS, one, other, value), True, value)

    def test_wrong_ways(self):
        one, other = (0, 2, 4), (1, 3, 2)
        wrong = (
            (), (("c", "a"),), (("c", "a"), ("c", "a")), (("c", "b"), ("c", "b")), (("c", "a"), ("c", "b"), ("c", "b")), (("b", "a"), ("c", "b")),
            (("c", "b"), ("b", "a")), (("a", "c"), ("b", "c")), [("c", "a"), ("c", "b")], (["c", "a"], ["c", "b"]), (("c", "a"), ["c", "b"]),
            (("c", "a"), ("c", "z")), (("c", "a"), ("c", "c")), (("c", "a"), ("c",)), (("c", "a"), ("c", "b", "a")), (("c", "a"), None),
            (("c", "a"), "cb"), ("ca", "cb"), "ca", None, True, 2, {("c", "a"): 1, ("c", "b"): 1}, (("c", "a"), ("c", True)),
            (("c", "a"), ("c", None)), (("c", "a"), (["c"], "b")), (("c", "a"), ("c", ["b"])), (("c", "a"), ("c", {"b": 1})), (("c", "c"), ("c", "c")), (None, None), (1, 1), ((), ()), PAIRS,
            (("c", "a"), ("c", "b"), ("c", "a"), ("a", "c")), ((("c", "a"), ("c", "b")),),
        )
        for value in wrong:
            self.assertIs(is_way(PAIRS, one, other, value), False, value)
        for value in ((("b", "b"),), (("a", "c"),), (None,), ((),)):
            self.assertIs(is_way(PAIRS, (2, 2, 2), (2, 2, 2), value), False)

    def test_ways_by_sharings_that_are_not_kept(self):
        game = by_size(("a", "b"), [0, 0, 2]).beside(by_size(("c", "d"), [0, 0, 2]))
        one, other = (2, 0, 1, 1), (1, 1, 0, 2)
        self.assertIs(is_way(game, one, other, (("a", "b"), ("c", "d"))), True)
        self.assertIs(is_way(game, one, other, (("c", "d"), ("a", "b"))), True)
        # These lead to the other sharing, too, but behind the first move a and b have less than their worth.
        self.assertIs(is_way(game, one, other, (("a", "d"), ("c", "b"))), False)
        self.assertIs(is_way(game, one, other, (("c", "b"), ("a", "d"))), False)
        seen = set()
        for one in forced_kept(game):
            for other in forced_kept(game):
                if distance_by_hand(one, other) == 2:
                    for first in pairs_of(game.people):
                        middle = given_by_hand(game, one, first[0], first[1], 1)
                        for second in pairs_of(game.people):
                            meets = given_by_hand(game, middle, second[0], second[1], 1) == other
                            kept = not left_by_hand(game, middle)
                            self.assertIs(is_way(game, one, other, (first, second)), meets and kept)
                            seen.add((meets, kept))
        self.assertEqual(len(seen), 4)

    def test_values_of_all_kinds(self):
        for value in strange():
            self.assertIs(is_way(PAIRS, (0, 2, 4), (1, 2, 3), value), False)
            self.assertIs(is_way(PAIRS, (0, 2, 4), (1, 2, 3), (value,)), False)
            self.assertIs(is_way(PAIRS, (0, 2, 4), (1, 3, 2), (("c", "a"), value)), False)
            self.assertIs(is_way(PAIRS, (2, 2, 2), (2, 2, 2), value), value == ())


class Kept(unittest.TestCase):
    def test_by_force(self):
        for game in small_growing():
            self.assertEqual(unchanged(self, kept_sharings, game), tuple(forced_kept(game)))
        for people in PEOPLE:
            flat = Game.additive(people, tuple(range(-1, len(people) - 1)))
            self.assertEqual(kept_sharings(flat), (tuple(range(-1, len(people) - 1)),))
        five = by_size(PEOPLE[-1], [0, 0, 0, 0, 1, 3])
        self.assertEqual(kept_sharings(five), tuple(forced_kept(five)))
        five = Game.additive(PEOPLE[-1], (1, -2, 0, 3, -1)).with_worth(PEOPLE[-1], 3)
        self.assertEqual(kept_sharings(five), tuple(forced_kept(five)))

    def test_each_number_of_persons(self):
        seen = set()
        for people in PEOPLE:
            many = len(people)
            told = [Game.additive(people, (3, -2, 0, 5, -1)[:many])]
            told += [by_size(people, [0] * many + [more]) for more in range(4)]
            told += [by_size(people, [-at for at in range(many)] + [2 - many]), estate_like(people, many + 1, [2, 2, 3, 2, 1][:many])]
            told += [by_dividends(people, seed, 1) for seed in (1, 2, 3) if many < 4]
            for game in told:
                expected = forced_kept(game)
                self.assertEqual(unchanged(self, kept_sharings, game), tuple(expected))
                self.assertTrue(all(same(one, other) for one, other in zip(kept_sharings(game), expected)))
                seen.add((many, len(expected) == 1))
        self.assertEqual(len(seen), 9)

    def test_games_with_few_kept_sharings_of_many_kinds(self):
        # One person of these games, wherever it stands, has just one share that is kept.
        for people in PEOPLE[1:]:
            for person in people:
                rest = tuple(other for other in people if other != person)
                one = by_size(rest, [0] * len(rest) + [2]).beside(Game((person,), {(person,): -7}))
                self.assertEqual(kept_sharings(one), tuple(forced_kept(one)))

    def test_it_does_not_take_long(self):
        two = ("a", "b"), {("a",): 0, ("a", "b"): 1999, ("b",): 0}
        three = ("a", "b", "c"), {("a",): 0, ("a", "b"): 20, ("a", "b", "c"): 60, ("a", "c"): 20, ("b",): 0, ("b", "c"): 20, ("c",): 0}
        for told, many in ((two, 2000), (three, 1261)):
            least = None
            for _ in range(8):
                games = [Game(*told) for _ in range(25)]
                begun = time.perf_counter()
                numbers = [len(kept_sharings(game)) for game in games]
                spent = time.perf_counter() - begun
                self.assertEqual(numbers, [many] * 25)
                least = spent if least is None else min(least, spent)
            # The quickest of several rounds: 2 ms for a call, some fifteen times what a machine of today takes.
            self.assertLess(least, 25 * 0.002)

    def test_the_limit(self):
        two = Game(("a", "b"), {("a",): -5, ("a", "b"): 1997, ("b",): 3})
        self.assertEqual(kept_sharings(two), tuple((at, 1997 - at) for at in range(-5, 1995)))
        self.assertEqual(len(kept_sharings(two)), 2000)
        self.assertEqual(self.most(two.with_worth(("a", "b"), 1998)), 2000)
        # Beside one another the numbers are multiplied: 40 * 50, 3 * 667, 41 * 50.
        for one, other, many in ((40, 50, 2000), (3, 667, 2001), (41, 50, 2050), (44, 45, 1980), (1, 2000, 2000), (1, 2001, 2001)):
            beside = by_size(("a", "b"), [0, 0, one - 1]).beside(by_size(("c", "d"), [0, 0, other - 1]))
            if many > 2000:
                self.assertEqual(self.most(beside), 2000)
            else:
                self.assertEqual(len(kept_sharings(beside)), many)

    def test_the_limit_for_three_and_more_persons(self):
        # One person has as many shares that are kept, and the third one, and further ones, just one.
        for people in (("a", "b", "c"), ("b", "c", "a"), ("a", "c", "b"), ("a", "b", "c", "d", "e"), ("c", "e", "a", "b", "d")):
            alone = tuple(sorted(people[2:]))
            beside = Game.additive(alone, (5, -7, 0)[:len(alone)])
            for more, many in ((1999, 2000), (2000, 2001)):
                game = by_size(tuple(sorted(people[:2])), [0, 0, more]).beside(beside)
                if many > 2000:
                    self.assertEqual(self.most(game), 2000)
                else:
                    self.assertEqual(len(kept_sharings(game)), 2000)

    def most(self, game):
        with self.assertRaises(TooMany) as caught:
            kept_sharings(game)
        return caught.exception.limit

    def test_great_games(self):
        seen = set()
        for people in PEOPLE:
            for game in high_games(people):
                spot = walked(game, people)
                rooms = [room_by_hand(game, spot, giver, getter) for giver, getter in pairs_of(people)]
                if max(rooms, default=0) >= 2000:
                    self.assertEqual(self.most(game), 2000)
                else:
                    self.assertEqual(kept_sharings(game), self.reached(game, spot))
                seen.add((len(people), max(rooms, default=0) >= 2000))
        self.assertEqual(len(seen), 9)

    def reached(self, game, spot):
        """All kept sharings to which moves lead from one of them."""
        found, at = [spot], 0
        while at < len(found):
            for giver, getter in pairs_of(game.people):
                told = given_by_hand(game, found[at], giver, getter, 1)
                if told not in found and not left_by_hand(game, told):
                    found.append(told)
            at += 1
        return tuple(sorted(found))

    def test_great_games_with_few_kept_sharings(self):
        near = Game.additive(PEOPLE[-1], (10 ** 9 - 9, -10 ** 9, 3, 1, 2))
        put = near.with_worth(PEOPLE[-1], near[PEOPLE[-1]] + 2)
        self.assertEqual(kept_sharings(put), tuple(forced_kept(put)))
        self.assertEqual(len(kept_sharings(put)), 15)


class Errors(unittest.TestCase):
    def test_wrong_arguments(self):
        for game in (PAIRS, MOST, wild(("a", "b"), 4), wild(PEOPLE[-1], 2)):
            sharing, giver, getter = sharing_of(game, 2), game.people[0], game.people[1]
            other = sharing_of(game, 1)
            refused(self, moves, (game, sharing), "game sharing")
            refused(self, moved, (game, sharing, giver, getter), "game sharing person person")
            refused(self, distance, (game, sharing, other), "game sharing sharing")
            refused(self, getter_for, (game, sharing, other, giver), "game sharing sharing person")
            refused(self, way, (game, sharing, other), "game sharing sharing")
            for value in ((), None, [1]):
                refused(self, is_way, (game, sharing, other, value), "game sharing sharing -")
            refused(self, kept_sharings, (game,), "game")

    def test_one_person(self):
        for game in (PAIRS, MOST, STEPS, wild(PEOPLE[-1], 2)):
            for sharing in (sharing_of(game, 1), walked(game, game.people)):
                for person in game.people:
                    self.assertIs(raised(moved, game, sharing, person, person).__class__, InvalidOperation)
                self.assertIs(raised(moved, game, sharing, "zz", "zz").__class__, UnknownName)

    def test_not_growing(self):
        for game in other_games():
            sharing, other = sharing_of(game, 1), sharing_of(game, 4)
            one, two = game.people[:2]
            for seed in range(2):
                not_growing(self, moves, game, sharing_of(game, seed))
                not_growing(self, moved, game, sharing_of(game, seed), one, two)
            not_growing(self, distance, game, sharing, other)
            for person in game.people:
                not_growing(self, getter_for, game, sharing, other, person)
            not_growing(self, way, game, sharing, sharing)
            not_growing(self, is_way, game, sharing, sharing, ())
            not_growing(self, kept_sharings, game)
        not_growing(self, moves, MOST, (2, 2, 2))
        not_growing(self, way, MOST, (2, 2, 2), (2, 2, 2))

    def test_left(self):
        for game in growing_games():
            if len(game) < 2:
                continue
            kept = walked(game, game.people)
            for sharing in some_left(game)[:4]:
                worse = some_left(game)[-1]
                one, two = game.people[:2]
                left(self, sharing, moves, game, sharing)
                left(self, sharing, moved, game, sharing, one, two)
                for call in (distance, way):
                    left(self, sharing, call, game, sharing, kept)
                    left(self, sharing, call, game, kept, sharing)
                    left(self, sharing, call, game, sharing, worse)
                left(self, sharing, is_way, game, sharing, kept, ())
                left(self, sharing, is_way, game, kept, sharing, None)
                left(self, worse, is_way, game, worse, sharing, None)
                for person in game.people:
                    left(self, sharing, getter_for, game, sharing, kept, person)
                    left(self, sharing, getter_for, game, kept, sharing, person)

    def test_no_game_at_all(self):
        self.assertIs(raised(kept_sharings, None).__class__, InvalidGame)
        self.assertIs(raised(moves, PAIRS, (6, 0, 0)).__class__, Left)


if __name__ == "__main__":
    unittest.main()
