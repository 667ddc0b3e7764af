"""[0.9], [0.5], [1.3], stage 4: orders and pays."""

import unittest

from joinmore.base.games import Game
from joinmore.errors import InvalidGame, InvalidOperation, InvalidSharing
from joinmore.pay.pays import is_order, orders, orders_of, pay, pays
from joinmore.pay.sharings import is_sharing
from tests.cases import MOST, PAIRS, PEOPLE, STEPS, all_orders, games, no_games, no_orders, no_sharings, strange, walked, wild


class Examples(unittest.TestCase):
    def test_examples(self):
        told = [pay(STEPS, ("a", "b", "c")), pay(STEPS, ("c", "b", "a")), pays(PAIRS), orders_of(PAIRS, (0, 2, 4)), len(orders(STEPS)), pay(MOST, ("a", "b", "c"))]
        self.assertEqual(told, [(1, 2, 6), (4, 3, 2), ((0, 2, 4), (0, 4, 2), (2, 0, 4), (2, 4, 0), (4, 0, 2), (4, 2, 0)), (("a", "b", "c"),), 6, (0, 4, 2)])


class Orders(unittest.TestCase):
    def test_all_orders(self):
        for people, many in zip(PEOPLE, (1, 2, 6, 24, 120)):
            found = orders(wild(people, 1))
            self.assertIsInstance(found, tuple)
            self.assertEqual(found, tuple(all_orders(people)))
            self.assertEqual(list(found), sorted(found))
            self.assertEqual(len(set(found)), many)
            for order in found:
                self.assertIs(is_order(wild(people, 1), order), True)

    def test_values_that_are_no_order(self):
        for people in PEOPLE:
            for value in no_orders(people):
                self.assertIs(is_order(wild(people, 1), value), False, value)
                with self.assertRaises(InvalidOperation, msg=repr(value)):
                    pay(wild(people, 1), value)

    def test_values_near_an_order(self):
        wrong = (
            (), ("a",), ("a", "b"), ("a", "b", "c", "c"), ("a", "b", "b"), ("a", "a", "a"), ("a", "b", "d"), ["a", "b", "c"], "abc",
            ("a", "b", "c", "d"), (("a", "b", "c"),), ("a", "b", ["c"]), ("a", "b", None), {"a": 1, "b": 2, "c": 3}, ("A", "b", "c"),
        )
        for value in wrong:
            self.assertIs(is_order(PAIRS, value), False, value)


class Pays(unittest.TestCase):
    def test_each_pay_by_a_walk(self):
        for game in games():
            for order in all_orders(game.people):
                told = pay(game, order)
                self.assertEqual(told, walked(game, order))
                self.assertIs(is_sharing(game, told), True)

    def test_by_hand(self):
        told = ((("a", "b", "c"), (1, 2, 6)), (("a", "c", "b"), (1, 5, 3)), (("b", "a", "c"), (2, 1, 6)), (("b", "c", "a"), (4, 1, 4)), (("c", "a", "b"), (2, 5, 2)), (("c", "b", "a"), (4, 3, 2)))
        for order, expected in told:
            self.assertEqual(pay(STEPS, order), expected)

    def test_all_pays_each_once(self):
        for game in games():
            found = pays(game)
            self.assertIsInstance(found, tuple)
            self.assertEqual(list(found), sorted({walked(game, order) for order in all_orders(game.people)}))
        self.assertEqual(pays(Game.additive(("a", "b", "c"), (2, -1, 0))), ((2, -1, 0),))
        self.assertEqual(pays(Game(("k",), {("k",): -7})), ((-7,),))
        self.assertEqual(pays(MOST), ((0, 2, 4), (0, 4, 2), (2, 0, 4), (2, 4, 0), (4, 0, 2), (4, 2, 0)))
        self.assertEqual(len(pays(PAIRS.beside(Game(("d",), {("d",): 5})))), 6)


class OrdersOf(unittest.TestCase):
    def test_of_each_pay(self):
        for game in games():
            if len(game) < 5:
                for told in pays(game):
                    expected = tuple(order for order in all_orders(game.people) if walked(game, order) == told)
                    self.assertEqual(orders_of(game, told), expected)
                    self.assertTrue(expected)

    def test_no_pay(self):
        self.assertEqual(orders_of(PAIRS, (2, 2, 2)), ())
        self.assertEqual(orders_of(PAIRS, (6, 0, 0)), ())
        self.assertEqual(orders_of(MOST, (2, 2, 2)), ())

    def test_a_pay_of_several_orders(self):
        flat = Game.additive(("a", "b", "c"), (2, -1, 0))
        self.assertEqual(orders_of(flat, (2, -1, 0)), tuple(all_orders(("a", "b", "c"))))
        self.assertEqual(orders_of(flat, (2, 0, -1)), ())
        beside = PAIRS.beside(Game(("d",), {("d",): 5}))
        expected = (("a", "b", "c", "d"), ("a", "b", "d", "c"), ("a", "d", "b", "c"), ("d", "a", "b", "c"))
        self.assertEqual(orders_of(beside, (0, 2, 4, 5)), expected)


class Errors(unittest.TestCase):
    def test_no_game(self):
        for value in no_games():
            for call in (orders, pays):
                with self.assertRaises(InvalidGame):
                    call(value)
            for second in (("a", "b", "c"), (0, 2, 4), None, [1], 3, PAIRS):
                for call in (is_order, pay, orders_of):
                    with self.assertRaises(InvalidGame):
                        call(value, second)

    def test_no_sharing(self):
        for game in (PAIRS, MOST, wild(("k",), 1), wild(("a", "b"), 4), wild(PEOPLE[-1], 2)):
            for value in no_sharings(game):
                with self.assertRaises(InvalidSharing, msg=repr(value)):
                    orders_of(game, value)
        for value in ((1, 2), (1, 2, 4), (True, 1, 4), [1, 2, 3], (1, 2, 3, 0)):
            with self.assertRaises(InvalidSharing):
                orders_of(PAIRS, value)

    def test_values_of_all_kinds(self):
        for value in strange():
            self.assertIs(is_order(PAIRS, value), False)
            self.assertIs(is_order(wild(("a",), 1), value), value == ("a",))


if __name__ == "__main__":
    unittest.main()
