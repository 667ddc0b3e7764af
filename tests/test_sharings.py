"""[0.10], [0.5], [1.3], stage 5: sharings and groups that leave."""

import unittest

from joinmore.base.games import Game
from joinmore.errors import InvalidGame, InvalidOperation, InvalidSharing
from joinmore.pay.sharings import is_kept, is_sharing, leaving, share_for, slack
from tests.cases import (
    MOST, PAIRS, PEOPLE, STEPS, all_groups, games, no_games, no_groups, no_sharings, share_by_hand, sharing_of, strange, wild,
)

HUGE = 10 ** 60 - 1


class Examples(unittest.TestCase):
    def test_examples(self):
        told = [is_sharing(PAIRS, (1, 2, 3)), is_sharing(PAIRS, (1, 2, 4)), share_for(PAIRS, (1, 2, 3), ("a", "c")), slack(PAIRS, (1, 2, 3), ("a", "b")), leaving(PAIRS, (6, 0, 0)), is_kept(PAIRS, (1, 2, 3)), is_kept(MOST, (2, 2, 2))]
        self.assertEqual(told, [True, False, 4, 1, (("b", "c"),), True, True])
        self.assertEqual(leaving(MOST, (0, 4, 2)), (("a", "c"),))


class Sharings(unittest.TestCase):
    def test_sharings(self):
        for game in games():
            for seed in range(6):
                self.assertIs(is_sharing(game, sharing_of(game, seed)), True)

    def test_values_that_are_none(self):
        for game in games():
            for value in no_sharings(game):
                self.assertIs(is_sharing(game, value), False, value)
                self.assertIs(is_kept(game, value), False, value)

    def test_by_hand(self):
        wrong = (
            (1, 2, 4), (1, 2, 2), (), (6,), (3, 3), (1, 2, 3, 0), (1, 1, 1, 3), [1, 2, 3], (True, 2, 3), (6, False, 0), (6, 0, False),
            ("1", 2, 3), (1, 2, None), ((1,), 2, 3), "123", 6, None, True, {0: 1, 1: 2, 2: 3}, ((1, 2, 3),), PAIRS,
        )
        for value in wrong:
            self.assertIs(is_sharing(PAIRS, value), False, value)
            self.assertIs(is_kept(PAIRS, value), False, value)
        for value in ((6, 0, 0), (-1, 7, 0), (2, 2, 2), (1000, -1000, 6)):
            self.assertIs(is_sharing(PAIRS, value), True, value)

    def test_sixty_digits(self):
        for sign in (1, -1):
            self.assertIs(is_sharing(PAIRS, (sign * HUGE, -sign * HUGE, 6)), True)
            self.assertIs(is_sharing(PAIRS, (6, sign * HUGE, -sign * HUGE)), True)
            self.assertIs(is_sharing(PAIRS, (sign * (HUGE + 1), -sign * (HUGE + 1), 6)), False)
            self.assertIs(is_sharing(PAIRS, (6, sign * (HUGE + 1), -sign * (HUGE + 1))), False)
        self.assertIs(is_sharing(PAIRS, (HUGE, HUGE, 6 - 2 * HUGE)), False)

    def test_values_of_all_kinds(self):
        one = Game(("a",), {("a",): 7})
        self.assertIs(is_sharing(one, (7,)), True)
        self.assertIs(is_sharing(Game(("a",), {("a",): 1}), (True,)), False)
        self.assertIs(is_sharing(Game(("a",), {("a",): 0}), (False,)), False)
        zero = Game.additive(("a", "b", "c"), (0, 0, 0))
        for value in strange():
            self.assertIs(is_sharing(one, value), False)
            self.assertIs(is_kept(one, value), False)
            self.assertIs(is_sharing(zero, value), value == (0, 0, 0))
            self.assertIs(is_kept(zero, value), value == (0, 0, 0))


class Groups(unittest.TestCase):
    def test_shares_and_slacks(self):
        for game in games():
            for seed in (0, 3, 4):
                sharing = sharing_of(game, seed)
                for group in all_groups(game.people):
                    share = share_by_hand(game, sharing, group)
                    self.assertEqual(share_for(game, sharing, group), share)
                    self.assertEqual(slack(game, sharing, group), share - game[group])
                self.assertEqual((share_for(game, sharing, ()), slack(game, sharing, ())), (0, 0))
                self.assertEqual(slack(game, sharing, game.people), 0)

    def test_shares_of_more_than_sixty_digits(self):
        game = Game.additive(("a", "b", "c"), (0, 0, 0))
        sharing = (HUGE // 2 + 1, HUGE // 2, -HUGE)
        self.assertEqual(share_for(game, sharing, ("a", "b")), HUGE)
        self.assertEqual(leaving(game, sharing), (("a", "c"), ("b", "c"), ("c",)))

    def test_leaving(self):
        for game in games():
            for seed in range(8):
                sharing = sharing_of(game, seed)
                found = leaving(game, sharing)
                self.assertIsInstance(found, tuple)
                expected = [group for group in all_groups(game.people) if share_by_hand(game, sharing, group) < game[group]]
                self.assertEqual(list(found), expected)
                self.assertIs(is_kept(game, sharing), not expected)
        self.assertEqual(leaving(STEPS, (9, 0, 0)), (("b",), ("b", "c"), ("c",)))
        self.assertEqual(leaving(STEPS, (1, 2, 6)), ())

    def test_kept_to_the_last_unit(self):
        for sharing, kept in (((0, 2, 4), True), ((-1, 3, 4), False), ((0, 1, 5), False), ((4, 1, 1), True), ((5, 1, 0), False)):
            self.assertIs(is_kept(PAIRS, sharing), kept, sharing)
        kept = [(a, b, 6 - a - b) for a in range(-8, 9) for b in range(-8, 9) if is_kept(MOST, (a, b, 6 - a - b))]
        self.assertEqual(kept, [(2, 2, 2)])
        kept = [(a, b, 6 - a - b) for a in range(-8, 9) for b in range(-8, 9) if is_kept(PAIRS, (a, b, 6 - a - b))]
        self.assertEqual(len(kept), 19)


class Errors(unittest.TestCase):
    def test_no_game(self):
        for value in no_games():
            for second in ((1, 2, 3), None, [1], 3, PAIRS):
                for call in (is_sharing, leaving, is_kept):
                    with self.assertRaises(InvalidGame):
                        call(value, second)
                for third in ((), ("a",), None, "x"):
                    for call in (share_for, slack):
                        with self.assertRaises(InvalidGame):
                            call(value, second, third)

    def test_no_sharing(self):
        for game in (PAIRS, MOST, wild(("k",), 1), wild(("a", "b"), 4), wild(PEOPLE[-1], 2)):
            for value in no_sharings(game):
                with self.assertRaises(InvalidSharing, msg=repr(value)):
                    leaving(game, value)
                for group in ((), game.people, None, ["a"], "zz", ("zz",)):
                    for call in (share_for, slack):
                        with self.assertRaises(InvalidSharing, msg=repr(value)):
                            call(game, value, group)

    def test_no_group(self):
        for game in (PAIRS, wild(("k",), 1), wild(PEOPLE[-1], 2)):
            for group in no_groups(game.people):
                for call in (share_for, slack):
                    with self.assertRaises(InvalidOperation, msg=repr(group)):
                        call(game, sharing_of(game, 2), group)


if __name__ == "__main__":
    unittest.main()
