"""[20.1] to [20.3], [0.5], [0.6], [1.3], stage 20: plans in which nobody gets less."""

import random
import unittest

from joinmore.base.games import Game
from joinmore.errors import InvalidGame, InvalidNumber, InvalidOperation, InvalidWeights
from joinmore.more.plans import falls, fall_by, is_plan, is_plans_paper, mixed_plan, order_plan, plan_to, plans_paper
from joinmore.pay.mixtures import mix, weight_of
from joinmore.pay.pays import pay
from tests.cases import (
    MOST, PAIRS, PEOPLE, STEPS, all_orders, all_tests, broken_by_hand, forced_kept, games, growing, growing_games, is_row_by_hand,
    no_factors, other_games, same, sharing_of, small_growing, some_groups, some_kept, some_left, strange, walked, wild,
)
from tests.refusals import left, no_tests, not_growing, raised, refused, unchanged

LONG = 10 ** 60 - 1


def plan_by_hand(game, order):
    """The pay of each group's game in an order."""
    found = {}
    for group in some_groups(game.people):
        alone = Game(group, {part: game[part] for part in some_groups(group)})
        found[group] = walked(alone, tuple(person for person in order if person in group))
    return found


def falls_by_hand(game, plan):
    found = []
    for person in game.people:
        for group in some_groups(game.people):
            for greater in some_groups(game.people):
                if person in group and set(group) < set(greater) and len(greater) == len(group) + 1:
                    if plan[greater][greater.index(person)] < plan[group][group.index(person)]:
                        found.append((person, group, greater))
    return tuple(found)


def is_plan_by_hand(game, factor, value):
    if value.__class__ is not dict or list(sorted(value, key=repr)) != sorted(some_groups(game.people), key=repr):
        return False
    return all(is_row_by_hand(row, len(group)) and sum(row) == factor * game[group] for group, row in value.items())


def never_falls(game):
    return all(falls_by_hand(game, plan_by_hand(game, order)) == () for order in all_orders(game.people))


def some_orders(game, step=17):
    return all_orders(game.people)[::step if len(game) > 4 else 1]


def some_plan(game, factor, source):
    """Any plan of the game times a factor."""
    found = {}
    for group in some_groups(game.people):
        head = tuple(source.randint(-5, 5) for _ in group[1:])
        found[group] = head + (factor * game[group] - sum(head),)
    return found


class Orders(unittest.TestCase):
    def test_by_pays(self):
        for game in games() + growing_games()[::2] + other_games():
            for order in some_orders(game):
                told = unchanged(self, order_plan, game, order)
                self.assertEqual(told, plan_by_hand(game, order))
                self.assertEqual(list(told), some_groups(game.people))
                self.assertTrue(all(is_row_by_hand(row, len(group)) for group, row in told.items()))
                self.assertEqual(told[game.people], pay(game, order))
                self.assertIs(is_plan(game, 1, told), True)

    def test_no_state_is_shared(self):
        told = order_plan(PAIRS, ("a", "b", "c"))
        told.clear()
        self.assertEqual(len(order_plan(PAIRS, ("a", "b", "c"))), 7)


class Plans(unittest.TestCase):
    def test_right_plans(self):
        source = random.Random(5)
        for game in games() + growing_games()[::3]:
            for factor in (1, 2, 7, 10 ** 6, 10 ** 40):
                plan = some_plan(game, factor, source)
                self.assertIs(unchanged(self, is_plan, game, factor, plan), True)
                self.assertIs(is_plan(game, factor, dict(reversed(list(plan.items())))), True)
                self.assertIs(is_plan(game, factor + 1, plan), all(game[group] == 0 for group in plan))

    def test_near_plans(self):
        right = {("a",): (0,), ("a", "b"): (0, 2), ("a", "b", "c"): (0, 2, 4), ("a", "c"): (1, 1), ("b",): (0,), ("b", "c"): (3, -1), ("c",): (0,)}
        self.assertIs(is_plan(PAIRS, 1, right), True)
        for group in right:
            row = right[group]
            wrong = [
                row[:-1] + (row[-1] + 1,), row[:-1] + (row[-1] - 1,), list(row), row + (0,), row[1:], row[:-1] + (None,), row[:-1] + (str(row[-1]),), None,
                (row,), row[:-1] + ((row[-1],),), row[:-1] + ([row[-1]],), {0: row}, (), row[:-1] + (False,), sum(row), row[:-1] + (10 ** 60,), PAIRS,
            ]
            if len(row) > 1:
                wrong += [(10 ** 60, sum(row) - 10 ** 60) + (0,) * (len(row) - 2), (True, sum(row) - 1) + (0,) * (len(row) - 2)]
                self.assertIs(is_plan(PAIRS, 1, right | {group: (LONG, sum(row) - LONG) + (0,) * (len(row) - 2)}), sum(row) - LONG > -10 ** 60)
            for value in wrong:
                self.assertIs(is_plan(PAIRS, 1, right | {group: value}), False, (group, value))
            self.assertIs(is_plan(PAIRS, 1, {other: right[other] for other in right if other != group}), False)
            self.assertIs(is_plan(PAIRS, 1, {other if other != group else ("z",): right[other] for other in right}), False)
        for key, row in ((), ()), (("d",), (0,)), (("b", "a"), (0, 2)), ("a", (0,)), (None, ()), (("a", "d"), (0, 2)), (1, (0,)):
            self.assertIs(is_plan(PAIRS, 1, right | {key: row}), False, key)
        self.assertIs(is_plan(PAIRS, 1, {other if other != ("a",) else (): right[other] for other in right}), False)
        for value in ({}, list(right.items()), tuple(right.items()), None, True, (1, right), [right], (right,), "plan", PAIRS, right[("a", "b", "c")]):
            self.assertIs(is_plan(PAIRS, 1, value), False)
        for value in strange():
            self.assertIs(is_plan(PAIRS, 1, value), False)

    def test_true_is_not_one(self):
        game = Game.additive(("a", "b"), (1, 0))
        self.assertIs(is_plan(game, 1, {("a",): (1,), ("a", "b"): (1, 0), ("b",): (0,)}), True)
        for value in (
            {("a",): (True,), ("a", "b"): (1, 0), ("b",): (0,)}, {("a",): (1,), ("a", "b"): (True, 0), ("b",): (0,)},
            {("a",): (1,), ("a", "b"): (1, 0), ("b",): (False,)},
        ):
            self.assertIs(is_plan(game, 1, value), False)

    def test_factors_of_sixty_digits(self):
        game = Game.additive(("a", "b"), (1, 0))
        plan = {("a",): (LONG,), ("a", "b"): (LONG, 0), ("b",): (0,)}
        self.assertIs(is_plan(game, LONG, plan), True)
        self.assertEqual(falls(game, LONG, plan), ())
        # No plan of twice the game has integers of at most sixty digits.
        self.assertIs(is_plan(game * 2, LONG, {("a",): (2 * LONG,), ("a", "b"): (2 * LONG, 0), ("b",): (0,)}), False)
        both = Game.additive(("a", "b"), (1, 1))
        self.assertIs(is_plan(both, LONG, {("a",): (LONG,), ("a", "b"): (LONG, LONG), ("b",): (LONG,)}), True)


class Falls(unittest.TestCase):
    def test_by_force(self):
        source = random.Random(6)
        seen = set()
        for game in games() + growing_games()[::3] + other_games():
            for order in some_orders(game)[:8]:
                plan = order_plan(game, order)
                told = unchanged(self, falls, game, 1, plan)
                self.assertEqual(told, falls_by_hand(game, plan))
                seen.add((len(game), told == ()))
            for factor in (1, 3, 10 ** 50):
                plan = some_plan(game, factor, source)
                told = falls(game, factor, plan)
                self.assertEqual(told, falls_by_hand(game, plan))
                self.assertEqual(falls(game, factor, dict(reversed(list(plan.items())))), told)
        self.assertEqual(len(seen), 9)

    def test_a_plan_that_never_falls_gives_kept_sharings(self):
        for game in small_growing() + growing_games()[::4]:
            for sharing in some_kept(game, 2):
                factor, plan = plan_to(game, sharing)
                for group in plan:
                    alone = game.only(group) * 1
                    for part in some_groups(group):
                        self.assertTrue(sum(plan[group][group.index(person)] for person in part) >= factor * alone[part])

    def test_no_plans(self):
        for game in (PAIRS, MOST):
            for value in strange() + [order_plan(STEPS, ("a", "b", "c"))]:
                self.assertIs(raised(falls, game, 1, value).__class__, InvalidOperation)
            for factor in (2, LONG):
                self.assertIs(raised(falls, game, factor, order_plan(game, ("a", "b", "c"))).__class__, InvalidOperation)


class Mixed(unittest.TestCase):
    def some_weights(self, game):
        orders = all_orders(game.people)
        return [
            ((orders[0], 1),), tuple((order, at + 1) for at, order in enumerate(orders)), tuple((order, 3 * at + 2) for at, order in enumerate(orders[::5])),
            ((orders[-1], 10 ** 59),), tuple((order, 10 ** 80 + at) for at, order in enumerate(orders[:2])),
        ]

    def test_by_sums(self):
        for game in (PAIRS, STEPS, MOST, wild(("k",), 1), wild(PEOPLE[3], 2), growing(PEOPLE[3], 7), wild(PEOPLE[-1], 2), growing(PEOPLE[-1], 2)):
            for weights in self.some_weights(game):
                told = unchanged(self, mixed_plan, game, weights)
                expected = {group: [0] * len(group) for group in some_groups(game.people)}
                for order, weight in weights:
                    for group, row in plan_by_hand(game, order).items():
                        expected[group] = [old + weight * share for old, share in zip(expected[group], row)]
                self.assertEqual(told, {group: tuple(row) for group, row in expected.items()})
                self.assertEqual(list(told), some_groups(game.people))
                self.assertEqual(told[game.people], mix(game, weights))
                total = weight_of(game, weights)
                if total < 10 ** 40:
                    self.assertIs(is_plan(game, total, told), True)
                    if not broken_by_hand(game):
                        self.assertEqual(falls(game, total, told), ())

    def test_no_weights(self):
        for value in strange() + [((("a", "b", "c"), 0),), ((("c", "b", "a"), 1), (("a", "b", "c"), 1)), [(("a", "b", "c"), 1)]]:
            self.assertIs(raised(mixed_plan, PAIRS, value).__class__, InvalidWeights)


class PlansTo(unittest.TestCase):
    def hold(self, game, sharing):
        told = unchanged(self, plan_to, game, sharing)
        self.assertEqual((told.__class__, len(told)), (tuple, 2))
        factor, plan = told
        self.assertTrue(factor.__class__ is int and 1 <= factor < 10 ** 60)
        self.assertTrue(is_plan_by_hand(game, factor, plan))
        self.assertEqual(list(plan), some_groups(game.people))
        self.assertEqual(falls_by_hand(game, plan), ())
        self.assertEqual(plan[game.people], tuple(share * factor for share in sharing))
        self.assertIs(is_plan(game, factor, plan), True)
        self.assertEqual(falls(game, factor, plan), ())

    def test_of_all_kept_sharings(self):
        for game in small_growing():
            for sharing in forced_kept(game)[:40]:
                self.hold(game, sharing)

    def test_of_great_games(self):
        for game in growing_games():
            for sharing in some_kept(game):
                self.hold(game, sharing)

    def test_pays_are_ends_of_plans_of_orders(self):
        for game in (PAIRS, STEPS, growing(PEOPLE[3], 2)):
            for order in all_orders(game.people):
                self.hold(game, walked(game, order))


class Papers(unittest.TestCase):
    def test_fall_by(self):
        for game in other_games() + games():
            for test in all_tests(game.people):
                if test not in broken_by_hand(game):
                    self.assertIs(raised(fall_by, game, test).__class__, InvalidOperation)
                    continue
                order, triple = unchanged(self, fall_by, game, test)
                group, one, other = test
                rest = tuple(person for person in game.people if person not in group + (one, other))
                self.assertEqual(order, group + (other, one) + rest)
                self.assertEqual(triple, (one, tuple(sorted(group + (one,))), tuple(sorted(group + (one, other)))))
                self.assertIn(triple, falls_by_hand(game, plan_by_hand(game, order)))
                self.assertIs(is_plans_paper(game, ("falls", order, triple)), True)

    def test_of_all_games(self):
        seen = set()
        for game in games() + growing_games() + other_games():
            told = unchanged(self, plans_paper, game)
            growing_game = broken_by_hand(game) == []
            self.assertEqual(told.__class__, tuple)
            self.assertEqual(told == ("never",), growing_game)
            self.assertIs(is_plans_paper(game, told), True)
            self.assertIs(is_plans_paper(game, ("never",)), growing_game)
            if not growing_game:
                self.assertEqual((len(told), told[0]), (3, "falls"))
                self.assertIn(told[2], falls_by_hand(game, plan_by_hand(game, told[1])))
            seen.add((len(game), growing_game))
        self.assertEqual(len(seen), 9)

    def test_exactly_the_growing_games(self):
        for game in games()[:24] + small_growing() + other_games()[:30]:
            if len(game) < 5:
                self.assertIs(never_falls(game), broken_by_hand(game) == [])

    def test_every_right_paper(self):
        for game in (MOST, PAIRS, wild(("a", "b"), 5), wild(("a", "b", "c"), 1), wild(PEOPLE[3], 1)):
            groups = some_groups(game.people)
            for order in all_orders(game.people):
                found = falls_by_hand(game, plan_by_hand(game, order))
                for person in game.people + ("zz",):
                    for group in groups:
                        for greater in groups:
                            triple = (person, group, greater)
                            self.assertIs(is_plans_paper(game, ("falls", order, triple)), triple in found)

    def test_near_papers(self):
        order, triple = ("a", "c", "b"), ("b", ("a", "b"), ("a", "b", "c"))
        self.assertIs(unchanged(self, is_plans_paper, MOST, ("falls", order, triple)), True)
        wrong = (
            ("falls", order), ("falls", order, triple, ()), ["falls", order, triple], ("falls", list(order), triple), ("falls", order, list(triple)),
            ("falls", ("a", "b", "c"), triple), ("falls", triple, order), ("never", order, triple), ("Falls", order, triple), ("falls", order, triple[:2]),
            ("falls", order, ("b", ["a", "b"], ("a", "b", "c"))), ("falls", order, ("b", ("b", "a"), ("a", "b", "c"))), ("falls", order, ("a", ("a", "b"), ("a", "b", "c"))),
            ("falls", order, ("b", ("a", "b", "c"), ("a", "b"))), ("falls", order, ("b", ("b",), ("a", "b", "c"))), ("falls", order, ("c", ("a", "c"), ("a", "b", "c"))),
            ("falls", ("a", "c"), triple), ("falls", "acb", triple), ("falls", order, None), ("falls", None, triple), (None, order, triple), ("never",), ("never", ()),
            "never", ["never"], None, True, (), ("falls",), (("falls", order, triple),), {"falls": order}, PAIRS, ("falls", order, PAIRS), ("falls", order, triple + (1,)),
            ("falls", order, (True, ("a", "b"), ("a", "b", "c"))), ("falls", order, ("b", (), ("b",))), ("falls", ("a", "c", "b", "b"), triple),
        )
        for value in wrong:
            self.assertIs(is_plans_paper(MOST, value), False, value)
        for value in (["never"], "never", ("never", ()), ("Never",), (("never",),), {"never": 1}, ("falls", order, triple), None, True, ()):
            self.assertIs(is_plans_paper(PAIRS, value), False, value)

    def test_values_of_all_kinds(self):
        for game in (PAIRS, MOST, wild(("k",), 1)):
            for value in strange():
                for put in (value, (value,), ("falls", value, value), ("falls", game.people, value), ("falls", value, (game.people[0], game.people, game.people))):
                    self.assertIs(is_plans_paper(game, put), False)


class Errors(unittest.TestCase):
    def no_weights(self, game):
        right = ((game.people, 1),)
        return [value for value in strange() if value != right] + [((game.people, 0),), right * 2, list(right)]

    def test_wrong_arguments(self):
        more = {
            "factor": (lambda game: no_factors(), InvalidNumber, "value"),
            "plan": (lambda game: strange(), InvalidOperation, None),
            "weights": (self.no_weights, InvalidWeights, None),
        }
        for game in (PAIRS, MOST, wild(("a", "b"), 4), wild(PEOPLE[-1], 2)):
            plan = order_plan(game, game.people)
            refused(self, order_plan, (game, game.people), "game order", more)
            refused(self, falls, (game, 1, plan), "game factor plan", more)
            refused(self, mixed_plan, (game, ((game.people, 1),)), "game weights", more)
            refused(self, plan_to, (game, sharing_of(game, 2)), "game sharing", more)
            refused(self, fall_by, (game, all_tests(game.people)[0]), "game test", more)
            refused(self, plans_paper, (game,), "game", more)
            for value in (plan, None, [1]):
                refused(self, is_plan, (game, 1, value), "game factor -", more)
                refused(self, is_plans_paper, (game, value), "game -", more)
        for value in no_tests(MOST.people):
            self.assertIs(raised(fall_by, MOST, value).__class__, InvalidOperation)
        self.assertIs(raised(fall_by, None, None).__class__, InvalidGame)

    def test_not_growing_and_left(self):
        for game in other_games():
            for seed in range(3):
                not_growing(self, plan_to, game, sharing_of(game, seed))
        for game in growing_games()[::2]:
            for sharing in some_left(game):
                left(self, sharing, plan_to, game, sharing)

    def test_judged_values_of_many_games(self):
        for game in (PAIRS, wild(PEOPLE[-1], 2)):
            for order in some_orders(game, 40):
                plan = order_plan(game, order)
                for group in plan:
                    for row in (plan[group] + (0,), plan[group][1:], list(plan[group])):
                        value = dict(plan)
                        value[group] = row
                        self.assertIs(is_plan(game, 1, value), is_plan_by_hand(game, 1, value))
                self.assertTrue(same(order_plan(game, order), plan))


if __name__ == "__main__":
    unittest.main()
