"""[0.11], [0.5], [1.3], stage 6: weights and mixtures."""

import unittest

from joinmore.base.games import Game
from joinmore.errors import InvalidGame, InvalidSharing, InvalidWeights
from joinmore.pay.mixtures import are_weights, is_mixture, mix, weight_of
from joinmore.pay.pays import orders
from tests.cases import MOST, PAIRS, PEOPLE, STEPS, all_orders, games, no_games, no_orders, no_sharings, sharing_of, strange, walked, wild

ABC, ACB, BAC, CBA = ("a", "b", "c"), ("a", "c", "b"), ("b", "a", "c"), ("c", "b", "a")


def some_weights(people, seed):
    """Weights of some orders, ascending, none of them by the program."""
    chosen = [order for at, order in enumerate(all_orders(people)) if (at * (seed + 3) + seed) % 3 != 1]
    return tuple((order, (seed * at + 1) % 7 + 1) for at, order in enumerate(chosen or all_orders(people)[:1]))


def mixed_by_hand(game, weights):
    sums = [0] * len(game.people)
    for order, weight in weights:
        for at, share in enumerate(walked(game, order)):
            sums[at] += weight * share
    return tuple(sums)


NO_WEIGHTS = (
    (), [], None, 0, True, "a", {ABC: 1}, ABC, (ABC,), (ABC, 1), [(ABC, 1)], ([ABC, 1],), ((ABC,),), ((ABC, 1, 1),), ((1, ABC),),
    ((ABC, 0),), ((ABC, -1),), ((ABC, -10 ** 70),), ((ABC, True),), ((ABC, False),), ((ABC, None),), ((ABC, "1"),), ((ABC, (1,)),),
    ((ABC, [1]),), ((CBA, 1), (ABC, 1)), ((ABC, 1), (ABC, 1)), ((ABC, 1), (ABC, 2)), ((ABC, 2), (ABC, 1)), ((ABC, 1), (CBA, 0)),
    ((ABC, 1), (CBA, True)), ((ABC, 1), (CBA, 1), (BAC, 1)), ((ABC, 1), (BAC, 1), (ACB, 1)), ((ABC, 1), (CBA, 1), (CBA, 1)),
    ((("a", "b"), 1),), ((("a", "b", "d"), 1),), ((("a", "b", "b"), 1),), ((("a", "b", "c", "d"), 1),), ((list(ABC), 1),),
    (("abc", 1),), (((), 1),), ((ABC, 1), None), ((ABC, 1), ()), ((ABC, 1), (None, 1)), ((ABC, 1), CBA), ((ABC, 1), [CBA, 1]),
    ((ABC, PAIRS),), ((PAIRS, 1),), PAIRS, ((((ABC, 1),), 1),),
)


class Examples(unittest.TestCase):
    def test_examples(self):
        alike = tuple([(order, 1) for order in orders(PAIRS)])
        told = [weight_of(PAIRS, alike), mix(PAIRS, alike), is_mixture(PAIRS, (2, 2, 2), alike), are_weights(PAIRS, ((("a", "b", "c"), 0),)), mix(STEPS, ((("a", "b", "c"), 2), (("c", "b", "a"), 1)))]
        self.assertEqual(told, [6, (12, 12, 12), True, False, (6, 7, 14)])


class Weights(unittest.TestCase):
    def test_weights(self):
        for people in PEOPLE:
            game = wild(people, 2)
            for seed in range(4):
                weights = some_weights(people, seed)
                self.assertIs(are_weights(game, weights), True)
                self.assertEqual(weight_of(game, weights), sum(weight for _, weight in weights))
            for order in all_orders(people)[:30]:
                self.assertIs(are_weights(game, ((order, 1),)), True)
                self.assertEqual(weight_of(game, ((order, 9),)), 9)
            self.assertEqual(weight_of(game, tuple((order, 2) for order in all_orders(people))), 2 * len(all_orders(people)))

    def test_values_that_are_none(self):
        for value in NO_WEIGHTS:
            self.assertIs(are_weights(PAIRS, value), False, value)
            self.assertIs(is_mixture(PAIRS, (0, 2, 4), value), False, value)
        for value in strange():
            for game in (PAIRS, STEPS, wild(("k",), 1), wild(PEOPLE[-1], 1)):
                self.assertIs(are_weights(game, value), False)
                self.assertIs(is_mixture(game, sharing_of(game, 1), value), False)
            self.assertIs(are_weights(wild(("a", "b"), 1), value), value == ((("a", "b"), 1),))

    def test_orders_that_are_none(self):
        for people in PEOPLE:
            for order in no_orders(people):
                self.assertIs(are_weights(wild(people, 1), ((order, 1),)), False, order)

    def test_the_weights_alone_need_not_ascend(self):
        self.assertIs(are_weights(PAIRS, ((ABC, 5), (BAC, 1), (CBA, 3))), True)
        self.assertIs(are_weights(PAIRS, ((ABC, 1), (BAC, 1), (CBA, 1))), True)

    def test_integers_of_any_size(self):
        for weight in (10 ** 60 - 1, 10 ** 60, 10 ** 99, 10 ** 200 + 7):
            weights = ((ABC, weight), (CBA, weight + 1))
            self.assertIs(are_weights(STEPS, weights), True)
            self.assertEqual(weight_of(STEPS, weights), 2 * weight + 1)
            self.assertEqual(mix(STEPS, weights), (5 * weight + 4, 5 * weight + 3, 8 * weight + 2))
            self.assertIs(is_mixture(STEPS, (1, 2, 6), ((ABC, weight),)), True)
            self.assertIs(is_mixture(PAIRS, (2, 2, 2), ((ABC, weight), (CBA, weight))), True)
            self.assertIs(is_mixture(PAIRS, (2, 2, 2), weights), False)
        self.assertEqual(weight_of(PAIRS, ((ABC, 10 ** 60 - 1), (CBA, 1))), 10 ** 60)


class Mixtures(unittest.TestCase):
    def test_sums(self):
        for game in games():
            for seed in range(3):
                weights = some_weights(game.people, seed)
                told = mix(game, weights)
                self.assertIsInstance(told, tuple)
                self.assertEqual(told, mixed_by_hand(game, weights))
                self.assertEqual(sum(told), game[game.people] * weight_of(game, weights))
                three = tuple((order, 3 * weight) for order, weight in weights)
                self.assertEqual(mix(game, three), tuple(3 * share for share in told))
                self.assertEqual(weight_of(game, three), 3 * weight_of(game, weights))

    def test_mixtures(self):
        for game in games():
            for seed in range(3):
                weights = some_weights(game.people, seed)
                three = tuple((order, 3 * weight) for order, weight in weights)
                total = sum(weight for _, weight in weights)
                sums = mixed_by_hand(game, weights)
                # The game times the total has this very tuple as a sharing.
                great = game * total
                self.assertIs(is_mixture(great, sums, weights), True)
                self.assertIs(is_mixture(great, sums, three), True)
                if len(game) > 1:
                    near = (sums[0] + 1, sums[1] - 1) + sums[2:]
                    self.assertIs(is_mixture(great, near, weights), False)
                    self.assertIs(is_mixture(great, near, three), False)
                if all(share % total == 0 for share in sums):
                    self.assertIs(is_mixture(game, tuple(share // total for share in sums), weights), True)

    def test_by_hand(self):
        two = ((ABC, 1), (CBA, 1))
        self.assertIs(is_mixture(PAIRS, (2, 2, 2), two), True)
        self.assertIs(is_mixture(PAIRS, (2, 2, 2), ((ABC, 3), (CBA, 3))), True)
        self.assertIs(is_mixture(PAIRS, (2, 2, 2), ((ABC, 1), (CBA, 2))), False)
        self.assertIs(is_mixture(PAIRS, (0, 2, 4), ((ABC, 7),)), True)
        self.assertIs(is_mixture(PAIRS, (0, 4, 2), ((ABC, 7),)), False)
        self.assertIs(is_mixture(PAIRS, (1, 2, 3), ((ABC, 3), (CBA, 1))), True)
        self.assertIs(is_mixture(PAIRS, (6, 0, 0), two), False)
        self.assertIs(is_mixture(MOST, (0, 4, 2), ((ABC, 1),)), True)
        self.assertEqual(mix(PAIRS, ((ABC, 3), (CBA, 1))), (4, 8, 12))
        self.assertEqual(mix(Game.additive(("a", "b"), (2, -1)), ((("a", "b"), 2), (("b", "a"), 3))), (10, -5))


class Errors(unittest.TestCase):
    def test_no_game(self):
        for value in no_games():
            for second in (((ABC, 1),), None, [1], (), PAIRS):
                for call in (are_weights, weight_of, mix):
                    with self.assertRaises(InvalidGame):
                        call(value, second)
                with self.assertRaises(InvalidGame):
                    is_mixture(value, (0, 2, 4), second)
                with self.assertRaises(InvalidGame):
                    is_mixture(value, second, second)

    def test_no_weights(self):
        for value in list(NO_WEIGHTS) + strange():
            for call in (weight_of, mix):
                with self.assertRaises(InvalidWeights, msg=repr(value)):
                    call(PAIRS, value)

    def test_no_sharing(self):
        for game in (PAIRS, MOST, wild(("k",), 1), wild(PEOPLE[-1], 2)):
            for sharing in no_sharings(game):
                for value in (((game.people, 1),), None, (), [1]):
                    with self.assertRaises(InvalidSharing, msg=repr(sharing)):
                        is_mixture(game, sharing, value)


if __name__ == "__main__":
    unittest.main()
