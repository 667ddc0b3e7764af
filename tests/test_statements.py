"""[0.2], [0.12] to [0.18]: the main statements, as far as tests, pays, sharings and mixtures tell them."""

import unittest

from joinmore.base.games import Game
from joinmore.base.gaps import broken, gap, is_growing, is_growing_by, is_shrinking, tests
from joinmore.pay.mixtures import is_mixture, mix, weight_of
from joinmore.pay.pays import orders, orders_of, pay, pays
from joinmore.pay.sharings import is_kept, leaving, share_for, slack
from tests.cases import MOST, PAIRS, PEOPLE, STEPS, all_groups, games, growing, some_groups, wild

SIDES = (Game(("x",), {("x",): 5}), Game(("x", "y"), {("x",): -2, ("x", "y"): 4, ("y",): 1}))


def growing_games():
    return [PAIRS, STEPS] + [growing(people, seed) for people in PEOPLE for seed in (2, 3, 7, 10)]


def other_games():
    return [MOST, PAIRS.turned()] + [game for game in games() if not is_growing(game)]


class Growing(unittest.TestCase):
    def test_there_are_games_of_both_kinds(self):
        self.assertTrue(all(is_growing(game) for game in growing_games()))
        self.assertTrue(len(other_games()) > 5)

    def test_any_two_groups(self):
        for game in growing_games():
            for one in all_groups(game.people):
                for other in all_groups(game.people):
                    self.assertIs(is_growing_by(game, one, other), True)
        for game in other_games():
            pairs = [(one, other) for one in game.groups for other in game.groups]
            self.assertIn(False, [is_growing_by(game, one, other) for one, other in pairs])

    def test_pays_are_kept_within_each_group(self):
        for game in growing_games():
            for group in some_groups(game.people):
                alone = game.only(group)
                self.assertIs(is_growing(alone), True)
                self.assertTrue(all(is_kept(alone, told) for told in pays(alone)))

    def test_mixtures_are_kept(self):
        for game in growing_games():
            for seed in (1, 2, 3):
                weights = tuple((order, (seed * at) % 5 + 1) for at, order in enumerate(orders(game)) if at % seed == 0)
                total = weight_of(game, weights)
                self.assertIs(is_kept(game * total, mix(game, weights)), True)

    def test_each_kept_sharing_of_three_is_a_mixture_of_three_orders(self):
        for sharing in [(a, b, 6 - a - b) for a in range(7) for b in range(7) if is_kept(PAIRS, (a, b, 6 - a - b))]:
            found = False
            for weights in ((x, y, 4 - x - y) for x in range(5) for y in range(5 - x)):
                for one in orders(PAIRS):
                    for two in orders(PAIRS):
                        for three in orders(PAIRS):
                            if one < two < three and not found:
                                pairs = zip((one, two, three), weights)
                                value = tuple((order, weight) for order, weight in pairs if weight)
                                found = is_mixture(PAIRS, sharing, value)
            self.assertTrue(found, sharing)

    def test_the_least_share_in_all_pays(self):
        for game in growing_games() + other_games():
            least = [min(share_for(game, told, group) for told in pays(game)) == game[group] for group in game.groups]
            self.assertIs(is_growing(game), all(least))
            self.assertIs(is_growing(game), all(is_kept(game, told) for told in pays(game)))

    def test_the_greatest_share_in_all_pays(self):
        for game in growing_games():
            for group in game.groups:
                rest = tuple(person for person in game.people if person not in group)
                greatest = max(share_for(game, told, group) for told in pays(game))
                self.assertEqual(greatest, game[game.people] - game[rest])


class Broken(unittest.TestCase):
    def test_a_group_leaves_the_pay_that_a_broken_test_tells(self):
        for game in other_games():
            for group, one, other in broken(game):
                rest = tuple(person for person in game.people if person not in group + (one, other))
                told = pay(game, group + (one, other) + rest)
                self.assertIn(tuple(sorted(group + (other,))), leaving(game, told))


class NotTrue(unittest.TestCase):
    def test_a_game_with_a_kept_sharing_need_not_be_growing(self):
        self.assertIs(is_kept(MOST, (2, 2, 2)), True)
        self.assertIs(is_growing(MOST), False)

    def test_tests_with_nobody_do_not_decide(self):
        self.assertTrue(all(gap(MOST, test) >= 0 for test in tests(MOST) if test[0] == ()))
        self.assertIs(is_growing(MOST), False)

    def test_the_greater_one_of_two_growing_games_need_not_be_growing(self):
        one, other = Game.additive(("a", "b"), (2, 0)), Game.additive(("a", "b"), (0, 2))
        greater = Game(("a", "b"), {group: max(one[group], other[group]) for group in some_groups(one.people)})
        self.assertEqual([is_growing(one), is_growing(other), is_growing(greater)], [True, True, False])

    def test_a_kept_sharing_need_not_be_a_pay(self):
        self.assertIs(is_kept(PAIRS, (2, 2, 2)), True)
        self.assertEqual(orders_of(PAIRS, (2, 2, 2)), ())


class AlwaysTrue(unittest.TestCase):
    def test_sums_multiples_and_games_beside_one_another(self):
        for game in growing_games():
            people = game.people
            for seed in (1, 4):
                self.assertIs(is_growing(game + growing(people, seed)), True)
            flat = Game.additive(people, tuple(7 * at - 11 for at in range(len(people))))
            self.assertIs(is_growing(game + flat), True)
            for many in (0, 1, 2, 50):
                self.assertIs(is_growing(game * many), True)
            for side in SIDES:
                if len(people) + len(side) <= 5:
                    self.assertIs(is_growing(game.beside(side)), True)
                    self.assertIs(is_growing(side.beside(game)), True)

    def test_turned_over_it_is_shrinking(self):
        for game in growing_games():
            self.assertIs(is_shrinking(game.turned()), True)
            self.assertIs(is_growing(game.turned().turned()), True)

    def test_names_change_nothing_but_names(self):
        for game in growing_games() + other_games():
            names = {person: "pq" + "edcba"[at] for at, person in enumerate(game.people)}
            other = game.renamed(names)
            self.assertEqual(len(broken(other)), len(broken(game)))
            self.assertIs(is_growing(other), is_growing(game))
            for order in orders(game)[:24]:
                told = dict(zip(game.people, pay(game, order)))
                named = dict(zip(other.people, pay(other, tuple(names[person] for person in order))))
                self.assertEqual({names[person]: told[person] for person in told}, named)


class Conventions(unittest.TestCase):
    def test_equal_calls_return_equal_results(self):
        for game in (STEPS, MOST, wild(PEOPLE[3], 2)):
            again = Game(game.people, {group: game[group] for group in some_groups(game.people)})
            sharing = pay(game, game.people)
            for call in (tests, broken, orders, pays):
                self.assertEqual(call(game), call(again))
            for call in (leaving, orders_of):
                self.assertEqual(call(game, sharing), call(again, sharing))
            for group in game.groups:
                self.assertEqual(slack(game, sharing, group), slack(again, sharing, group))


if __name__ == "__main__":
    unittest.main()
