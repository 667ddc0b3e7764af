"""[0.16], [9.1], [1.3], stage 9: bounds, tight groups and room."""

import unittest

from joinmore.base.games import Game
from joinmore.errors import InvalidNumber, InvalidOperation, Left, UnknownName
from joinmore.pay.bounds import gift, greatest_share, least_share, room, tight
from tests.cases import (
    MOST, PAIRS, PEOPLE, STEPS, all_groups, all_orders, forced_kept, games, given_by_hand, growing_games, left_by_hand, other_games,
    pairs_of, room_by_hand, share_by_hand, sharing_of, small_growing, some_kept, some_left, tight_by_hand, walked, wild,
)
from tests.refusals import left, not_growing, raised, refused, unchanged


class Examples(unittest.TestCase):
    def test_examples(self):
        told = [least_share(STEPS, ("a", "c")), greatest_share(STEPS, ("a", "c")), greatest_share(PAIRS, ("a",)), tight(PAIRS, (0, 2, 4)), room(PAIRS, (2, 2, 2), "a", "b")]
        self.assertEqual(told, [4, 8, 4, ((), ("a",), ("a", "b"), ("a", "b", "c")), 2])
        told = [gift(PAIRS, (2, 2, 2), "a", "b", 2), room(MOST, (2, 2, 2), "a", "b"), tight(MOST, (2, 2, 2))]
        self.assertEqual(told, [(0, 4, 2), 0, ((), ("a", "b"), ("a", "b", "c"), ("a", "c"), ("b", "c"))])
        with self.assertRaises(Left) as caught:
            room(PAIRS, (6, 0, 0), "a", "b")
        self.assertEqual(caught.exception.group, ("b", "c"))


class Bounds(unittest.TestCase):
    def test_against_all_pays(self):
        for game in growing_games():
            told = [walked(game, order) for order in all_orders(game.people)]
            for group in all_groups(game.people):
                shares = [share_by_hand(game, sharing, group) for sharing in told[::7 if len(told) > 24 else 1]]
                least, greatest = unchanged(self, least_share, game, group), unchanged(self, greatest_share, game, group)
                self.assertTrue(least <= min(shares) and max(shares) <= greatest)
                # The pay of an order with the group ahead has the least share, that with the others ahead the greatest one.
                rest = tuple(person for person in game.people if person not in group)
                self.assertEqual(share_by_hand(game, walked(game, group + rest), group), least)
                self.assertEqual(share_by_hand(game, walked(game, rest + group), group), greatest)

    def test_against_all_kept_sharings(self):
        for game in small_growing():
            kept = forced_kept(game)
            for group in all_groups(game.people):
                shares = [share_by_hand(game, sharing, group) for sharing in kept]
                self.assertEqual((least_share(game, group), greatest_share(game, group)), (min(shares), max(shares)))

    def test_nobody_and_all(self):
        for game in growing_games():
            told = [least_share(game, ()), greatest_share(game, ()), least_share(game, game.people), greatest_share(game, game.people)]
            self.assertEqual(told, [0, 0, game[game.people], game[game.people]])


class Tight(unittest.TestCase):
    def test_all_games(self):
        for game in games() + other_games() + growing_games():
            for sharing in [sharing_of(game, seed) for seed in (0, 3)] + [walked(game, game.people)]:
                told = unchanged(self, tight, game, sharing)
                self.assertEqual(told, tuple(tight_by_hand(game, sharing)))
                self.assertTrue(told[0] == () and game.people in told)

    def test_sharings_that_some_group_leaves(self):
        self.assertEqual(tight(PAIRS, (6, 0, 0)), ((), ("a", "b", "c"), ("b",), ("c",)))
        self.assertEqual(tight(PAIRS, (7, -1, 0)), ((), ("a", "b", "c"), ("c",)))

    def test_unions_and_what_is_common(self):
        for game in growing_games():
            for sharing in some_kept(game):
                told = tight(game, sharing)
                for one in told:
                    for other in told:
                        self.assertIn(tuple(sorted(set(one) | set(other))), told)
                        self.assertIn(tuple(sorted(set(one) & set(other))), told)
        # In other games this need not be so.
        self.assertNotIn(("a",), tight(MOST, (2, 2, 2)))


class Rooms(unittest.TestCase):
    def kept(self):
        found = [(MOST, (2, 2, 2)), (Game.additive(("a", "b"), (2, -1)), (2, -1))]
        for game in growing_games():
            found += [(game, sharing) for sharing in some_kept(game)]
        for game in other_games():
            told = [walked(game, order) for order in all_orders(game.people)[:12]]
            found += [(game, sharing) for sharing in told if not left_by_hand(game, sharing)]
        return found

    def test_the_greatest_gift(self):
        for game, sharing in self.kept():
            for giver, getter in pairs_of(game.people):
                told = unchanged(self, room, game, sharing, giver, getter)
                self.assertEqual(told, room_by_hand(game, sharing, giver, getter))
                self.assertEqual(left_by_hand(game, given_by_hand(game, sharing, giver, getter, told)), [])
                self.assertTrue(left_by_hand(game, given_by_hand(game, sharing, giver, getter, told + 1)))

    def test_gifts(self):
        for game, sharing in self.kept():
            for giver, getter in pairs_of(game.people):
                most = room_by_hand(game, sharing, giver, getter)
                for amount in sorted({0, min(1, most), most // 2, most}):
                    expected = given_by_hand(game, sharing, giver, getter, amount)
                    self.assertEqual(unchanged(self, gift, game, sharing, giver, getter, amount), expected)
                self.assertEqual(gift(game, sharing, giver, getter, 0), sharing)
                for amount in (most + 1, most + 2, 10 ** 59, 10 ** 60 - 1):
                    self.assertIs(raised(gift, game, sharing, giver, getter, amount).__class__, InvalidOperation)

    def test_by_hand(self):
        self.assertEqual([room(PAIRS, (1, 2, 3), giver, getter) for giver, getter in pairs_of(PAIRS.people)], [1, 1, 2, 1, 3, 2])
        self.assertEqual([room(PAIRS, (0, 2, 4), giver, getter) for giver, getter in pairs_of(PAIRS.people)], [0, 0, 2, 0, 4, 2])
        self.assertEqual([room(STEPS, (3, 3, 3), giver, getter) for giver, getter in pairs_of(STEPS.people)], [2, 2, 1, 2, 1, 1])


class Errors(unittest.TestCase):
    def test_wrong_arguments(self):
        for game in (PAIRS, MOST, wild(("a", "b"), 4), wild(PEOPLE[-1], 2)):
            for call in (least_share, greatest_share):
                refused(self, call, (game, game.people[:1]), "game group")
            sharing, giver, getter = sharing_of(game, 2), game.people[0], game.people[1]
            refused(self, tight, (game, sharing), "game sharing")
            refused(self, room, (game, sharing, giver, getter), "game sharing person person")
            refused(self, gift, (game, sharing, giver, getter, 1), "game sharing person person amount")
            refused(self, gift, (game, sharing, getter, giver, 10 ** 50), "game sharing person person amount")

    def test_one_person(self):
        for game in (PAIRS, MOST, wild(("k",), 1), wild(PEOPLE[-1], 2)):
            for seed in range(3):
                sharing = sharing_of(game, seed)
                for person in game.people:
                    self.assertIs(raised(room, game, sharing, person, person).__class__, InvalidOperation)
                    for amount in (0, 1, -1, None, True, 10 ** 60, "a"):
                        self.assertIs(raised(gift, game, sharing, person, person, amount).__class__, InvalidOperation)
            self.assertIs(raised(room, game, sharing_of(game), "zz", "zz").__class__, UnknownName)
            self.assertIs(raised(gift, game, sharing_of(game), "zz", "zz", -1).__class__, UnknownName)

    def test_not_growing(self):
        for game in other_games():
            for group in all_groups(game.people):
                not_growing(self, least_share, game, group)
                not_growing(self, greatest_share, game, group)
            self.assertIsNone(raised(tight, game, sharing_of(game, 1)))

    def test_left(self):
        for game in growing_games():
            for sharing in some_left(game)[:6]:
                for giver, getter in pairs_of(game.people)[:4]:
                    left(self, sharing, room, game, sharing, giver, getter)
                    for amount in (0, 1, 10 ** 59):
                        left(self, sharing, gift, game, sharing, giver, getter, amount)
                    for amount in (-1, None, True, 10 ** 60):
                        self.assertIs(raised(gift, game, sharing, giver, getter, amount).__class__, InvalidNumber)
        left(self, (0, 4, 2), room, MOST, (0, 4, 2), "a", "b")
        left(self, (0, 4, 2), gift, MOST, (0, 4, 2), "a", "b", 0)


if __name__ == "__main__":
    unittest.main()
