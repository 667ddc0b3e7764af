"""[0.13], [0.6], [1.3], stage 7: papers of sharings."""

import unittest

from joinmore.errors import NotGrowing
from joinmore.pay.papers import is_paper, paper
from joinmore.pay.pays import orders
from tests.cases import (
    MOST, PAIRS, PEOPLE, STEPS, all_groups, all_orders, by_size, faults_of, forced_kept, growing_games, high_games, left_by_hand,
    mixes_to, other_games, sharing_of, small_growing, some_kept, some_left, strange, walked, wild,
)
from tests.refusals import not_growing, raised, refused, unchanged

ABC, ACB, BAC, BCA, CAB, CBA = all_orders(("a", "b", "c"))
TWO = ((ABC, 1), (CBA, 1))


class Examples(unittest.TestCase):
    def test_examples(self):
        alike = tuple([(order, 1) for order in orders(PAIRS)])
        told = [paper(STEPS, (1, 2, 6))[0], paper(PAIRS, (6, 0, 0)), is_paper(PAIRS, (2, 2, 2), ("mixture", alike)), is_paper(STEPS, (1, 2, 6), ("mixture", ((("a", "b", "c"), 7),)))]
        self.assertEqual(told, ["mixture", ("leaves", ("b", "c")), False, True])
        two = ((("a", "b", "c"), 1), (("c", "b", "a"), 1))
        told = [is_paper(PAIRS, (2, 2, 2), ("mixture", two)), is_paper(MOST, (0, 4, 2), ("leaves", ("a", "c"))), is_paper(MOST, (0, 4, 2), ("mixture", ((("a", "b", "c"), 1),)))]
        self.assertEqual(told, [True, True, True])
        with self.assertRaises(NotGrowing) as caught:
            paper(MOST, (2, 2, 2))
        self.assertEqual(caught.exception.test, (("a",), "b", "c"))


class Papers(unittest.TestCase):
    def hold_mixture(self, game, sharing):
        told = unchanged(self, paper, game, sharing)
        self.assertIsInstance(told, tuple)
        self.assertEqual((len(told), told[0]), (2, "mixture"))
        self.assertEqual(faults_of(game, sharing, told[1], len(game)), [])
        self.assertIs(is_paper(game, sharing, told), True)
        for group in all_groups(game.people):
            self.assertIs(is_paper(game, sharing, ("leaves", group)), False)

    def hold_left(self, game, sharing):
        told = unchanged(self, paper, game, sharing)
        self.assertEqual((told.__class__, len(told), told[0]), (tuple, 2, "leaves"))
        groups = left_by_hand(game, sharing)
        self.assertIn(told[1], groups)
        for group in all_groups(game.people):
            self.assertIs(is_paper(game, sharing, ("leaves", group)), group in groups)
        for order in all_orders(game.people)[:24]:
            self.assertIs(is_paper(game, sharing, ("mixture", ((order, 1),))), False)

    def test_each_pay(self):
        for game in growing_games():
            for order in all_orders(game.people)[:120:5 if len(game) > 4 else 1]:
                self.hold_mixture(game, walked(game, order))

    def test_between_the_pays(self):
        for game in growing_games():
            for sharing in some_kept(game, 8):
                self.hold_mixture(game, sharing)

    def test_all_kept_sharings_of_small_games(self):
        for game in small_growing():
            for sharing in forced_kept(game):
                self.hold_mixture(game, sharing)

    def test_mixtures_of_few_and_of_many_pays(self):
        for people in PEOPLE:
            every = all_orders(people)
            for game in (by_size(people, [at * at * 720720 for at in range(len(people) + 1)]), high_games(people)[4]):
                for many in (1, 2, 3, 4, 6):
                    chosen = [walked(game, order) for order in every[::7][:many]]
                    shares = [sum(column) for column in zip(*chosen)]
                    # Whole shares, although the pays mix to fractions: the last person takes what is over.
                    told = [share // len(chosen) for share in shares]
                    sharing = tuple(told[:-1]) + (game[people] - sum(told[:-1]),)
                    if not left_by_hand(game, sharing):
                        self.hold_mixture(game, sharing)
            even = game_of_even(people)
            self.hold_mixture(even, tuple([even[people] // len(people)] * len(people)))

    def test_weights_stay_short(self):
        for game in high_games(PEOPLE[-1]) + high_games(PEOPLE[-2]):
            for sharing in some_kept(game, 40):
                self.hold_mixture(game, sharing)

    def test_sharings_with_a_group_that_leaves(self):
        for game in growing_games():
            for sharing in some_left(game):
                self.hold_left(game, sharing)

    def test_as_many_orders_as_persons_can_be_needed(self):
        game, sharing = PAIRS * 3, (5, 5, 8)
        for one in all_orders(game.people):
            for other in all_orders(game.people):
                ahead = [share - told for share, told in zip(sharing, walked(game, one))]
                behind = [told - share for share, told in zip(sharing, walked(game, other))]
                # It lies between no two pays: these are never on one line with it, one on each side.
                crossed = [ahead[x] * behind[y] - ahead[y] * behind[x] for x, y in ((0, 1), (0, 2), (1, 2))]
                self.assertTrue(any(crossed) or sum(x * y for x, y in zip(ahead, behind)) < 0)
        self.hold_mixture(game, sharing)
        self.assertEqual(len(paper(game, sharing)[1]), 3)


def game_of_even(people):
    return by_size(people, [at * at * len(people) for at in range(len(people) + 1)])


class Judged(unittest.TestCase):
    def test_right_mixtures_made_by_hand(self):
        right = (
            (PAIRS, (2, 2, 2), TWO), (PAIRS, (2, 2, 2), ((ACB, 1), (BCA, 1))), (PAIRS, (2, 2, 2), ((BAC, 9), (CAB, 9))),
            (PAIRS, (2, 2, 2), ((ABC, 1), (BCA, 1), (CAB, 1))), (PAIRS, (2, 2, 2), ((ACB, 5), (BAC, 5), (CBA, 5))),
            (PAIRS, (1, 2, 3), ((ABC, 3), (CBA, 1))), (PAIRS, (1, 2, 3), ((ACB, 1), (BAC, 1))),
            (PAIRS, (0, 2, 4), ((ABC, 1),)), (STEPS, (1, 2, 6), ((ABC, 10 ** 90),)), (MOST, (2, 2, 2), ((ACB, 3), (CAB, 3))),
            (PAIRS, (2, 2, 2), ((ABC, 10 ** 60), (CBA, 10 ** 60))), (PAIRS, (2, 2, 2), ((ABC, 10 ** 99), (CBA, 10 ** 99))),
        )
        for game, sharing, weights in right:
            self.assertTrue(mixes_to(game, sharing, weights), weights)
            self.assertIs(unchanged(self, is_paper, game, sharing, ("mixture", weights)), True, weights)

    def test_mixtures_that_are_none(self):
        wrong = (
            (), ((ABC, 1),), ((ABC, 1), (CBA, 2)), ((ABC, 2), (CBA, 1)), ((CBA, 1), (ABC, 1)), ((ABC, 1), (ABC, 1)),
            ((ABC, 1), (CBA, 1), (CBA, 1)), ((ABC, 1), (BCA, 0), (CBA, 1)), ((ABC, True), (CBA, True)), ((ABC, 1), (CBA, True)),
            ((ABC, -1), (CBA, -1)), ((ABC, 0), (CBA, 0)), [(ABC, 1), (CBA, 1)], ([ABC, 1], [CBA, 1]), ((list(ABC), 1), (CBA, 1)),
            ((ABC, 1, 1), (CBA, 1, 1)), ((ABC,), (CBA,)), ((ABC, "1"), (CBA, "1")), {ABC: 1, CBA: 1}, ((ABC, 1), (CBA, 1), None),
            ((ABC, 1), ("cba", 1)), ((("a", "b"), 1), (CBA, 1)), ((ABC, 1), (CBA, 10 ** 60)), (ABC, CBA), ABC, None, PAIRS,
            # These mix to the sharing, but with more orders than persons.
            tuple((order, 1) for order in all_orders(("a", "b", "c"))), ((ABC, 1), (ACB, 1), (BCA, 1), (CBA, 1)),
        )
        for weights in wrong:
            self.assertIs(is_paper(PAIRS, (2, 2, 2), ("mixture", weights)), False, weights)
        self.assertTrue(mixes_to(PAIRS, (2, 2, 2), wrong[-1]) and mixes_to(PAIRS, (2, 2, 2), wrong[-2]))

    def test_groups_that_leave(self):
        for game, sharing in ((PAIRS, (6, 0, 0)), (MOST, (0, 4, 2)), (STEPS, (9, 0, 0)), (MOST, (2, 2, 2)), (PAIRS, (2, 2, 2))):
            groups = left_by_hand(game, sharing)
            for group in all_groups(game.people):
                self.assertIs(unchanged(self, is_paper, game, sharing, ("leaves", group)), group in groups)
        wrong = (("c", "b"), ["b", "c"], ("b",), ("b", "c", "c"), ("b", "z"), "bc", ("a", "b", "c"), (), None, (("b", "c"),), {"b": 1, "c": 1}, True)
        for group in wrong:
            self.assertIs(is_paper(PAIRS, (6, 0, 0), ("leaves", group)), False, group)

    def test_other_forms(self):
        wrong = (
            ("mixture",), ("mixture", TWO, ()), ("mixture", TWO, TWO), ["mixture", TWO], (TWO, "mixture"), ("Mixture", TWO), ("mix", TWO),
            ("leaves", TWO), ("growing",), ("", TWO), (None, TWO), (("mixture", TWO),), {"mixture": TWO}, TWO, "mixture", (["mixture"], TWO),
            (True, TWO), (PAIRS, TWO), ("mixture ", TWO),
        )
        for value in wrong:
            self.assertIs(is_paper(PAIRS, (2, 2, 2), value), False, value)
        group = ("b", "c")
        wrong = (
            ("leaves",), ("leaves", group, ()), ("leaves", group, group), ["leaves", group], (group, "leaves"), ("left", group), (group,),
            ("mixture", group), ("leaves", "b", "c"), (None, group), {"leaves": group}, group, "leaves", ("LEAVES", group),
        )
        for value in wrong:
            self.assertIs(is_paper(PAIRS, (6, 0, 0), value), False, value)

    def test_values_of_all_kinds(self):
        for game in (PAIRS, MOST, wild(("k",), 1), wild(PEOPLE[-1], 2)):
            for value in strange():
                for put in (value, ("mixture", value), (value, ()), (value,)):
                    self.assertIs(is_paper(game, sharing_of(game, 2), put), False)
                shown = ("leaves", value)
                self.assertIs(is_paper(game, sharing_of(game, 2), shown), value in left_by_hand(game, sharing_of(game, 2)))

    def test_games_that_are_not_growing(self):
        for game in other_games():
            for order in all_orders(game.people)[:30]:
                sharing = walked(game, order)
                self.assertIs(is_paper(game, sharing, ("mixture", ((order, 3),))), True)
                for group in all_groups(game.people):
                    self.assertIs(is_paper(game, sharing, ("leaves", group)), group in left_by_hand(game, sharing))


class Errors(unittest.TestCase):
    def test_wrong_arguments(self):
        for game in (PAIRS, MOST, wild(("k",), 1), wild(PEOPLE[-1], 2)):
            refused(self, paper, (game, sharing_of(game, 1)), "game sharing")
            for value in (("mixture", TWO), None, [1], ("leaves", ("b",))):
                refused(self, is_paper, (game, sharing_of(game, 1), value), "game sharing -")

    def test_not_growing(self):
        for game in other_games():
            for seed in range(3):
                not_growing(self, paper, game, sharing_of(game, seed))
                self.assertIsNone(raised(is_paper, game, sharing_of(game, seed), None))


if __name__ == "__main__":
    unittest.main()
