"""Basket: its excess, its calls and its rides."""

import unittest

from basketrope.errors import BadExcess, BadLoad
from basketrope.values import Basket, Load
from tests.raising import check_only_read, check_raises
from tests.samples import WRONG_NUMBERS, odd_values

TOP = 10 ** 6
HEAVY = Load((TOP,) * 100)
NOBODY = Load(())


class Made(unittest.TestCase):
    def test_excess_at_the_bounds(self):
        for excess in (1, 2, TOP - 1, TOP):
            basket = Basket(excess)
            self.assertEqual(repr([basket.excess, basket.rides]), repr([excess, 0]))

    def test_values_that_are_none(self):
        for value in [*WRONG_NUMBERS, NOBODY, Basket(1), (2, (1, 3))]:
            check_raises(self, BadExcess, value, Basket, value)
        for value in odd_values():
            if repr(value) not in ("1", "2", str(TOP)):
                check_raises(self, BadExcess, value, Basket, value)

    def test_attributes_are_only_read(self):
        basket = Basket(2)
        basket(Load((3,)), Load((1,)))
        for name in ("excess", "rides"):
            check_only_read(self, basket, name)
        self.assertEqual([basket.excess, basket.rides], [2, 1])


class Calls(unittest.TestCase):
    def check(self, basket, one, other, expected):
        """Check what a call returns, and that only a number counts as a ride."""
        rides = basket.rides
        kept = (one.weights, other.weights, basket.excess)
        self.assertEqual(repr(basket(one, other)), repr(expected))
        self.assertEqual(repr(basket.rides), repr(rides if expected is None else rides + 1))
        self.assertEqual((one.weights, other.weights, basket.excess), kept)

    def test_each_difference(self):
        for excess in (1, 2, 5, 40):
            basket = Basket(excess)
            for total in range(1, 100):
                for lighter in (1, 20, 50):
                    difference = total - lighter
                    expected = difference if 1 <= difference <= excess else None
                    self.check(basket, Load((total,)), Load((lighter,)), expected)

    def test_loads_of_several_weights(self):
        basket = Basket(4)
        self.check(basket, Load((3, 9, 9)), Load((9, 4, 4)), 4)
        self.check(basket, Load((3, 9, 9)), Load((9, 4, 3)), None)
        self.check(basket, Load((1, 1, 1, 1)), NOBODY, 4)
        self.check(basket, Load((1, 1, 1, 1, 1)), NOBODY, None)
        self.check(basket, NOBODY, Load((1,)), None)
        self.check(basket, NOBODY, NOBODY, None)
        self.check(basket, Load((5, 5)), Load((9,)), 1)

    def test_a_load_and_itself(self):
        basket = Basket(TOP)
        for load in (NOBODY, Load((1,)), HEAVY):
            self.check(basket, load, load, None)

    def test_the_greatest_excess(self):
        basket = Basket(TOP)
        self.check(basket, Load((TOP,)), NOBODY, TOP)
        self.check(basket, Load((TOP, 1)), NOBODY, None)
        self.check(basket, Load((TOP, 1)), Load((1,)), TOP)
        self.check(basket, HEAVY, Load((TOP,) * 99), TOP)
        self.check(basket, HEAVY, Load((TOP,) * 98), None)
        self.check(basket, Load((TOP,) * 99), HEAVY, None)

    def test_each_basket_counts_by_itself(self):
        one, other = Basket(2), Basket(1)
        heavier, lighter = Load((3,)), Load((1,))
        for at in range(1, 6):
            self.assertEqual(one(heavier, lighter), 2)
            self.assertIsNone(other(heavier, lighter))
            self.assertEqual([one.rides, other.rides], [at, 0])

    def test_equal_calls(self):
        basket = Basket(3)
        self.assertEqual([basket(Load((3,)), Load((1,))) for _ in range(4)], [2] * 4)
        self.assertEqual(basket.rides, 4)

    def test_values_that_are_no_loads(self):
        basket = Basket(2)
        basket(Load((3,)), Load((1,)))
        good = Load((3,))
        for value in [*odd_values(), (3,), [3], 3, basket, (good,)]:
            check_raises(self, BadLoad, value, basket, value, good)
            check_raises(self, BadLoad, value, basket, good, value)
            check_raises(self, BadLoad, value, basket, value, value)
            self.assertEqual(basket.rides, 1)

    def test_of_two_wrong_values_the_first(self):
        basket = Basket(2)
        for one, other in [("a", "b"), (None, 0), ([], [1]), ((3,), None), (True, 1)]:
            check_raises(self, BadLoad, one, basket, one, other)
            check_raises(self, BadLoad, other, basket, other, one)
        first, second = [], []
        with self.assertRaises(BadLoad) as caught:
            basket(first, second)
        self.assertIs(caught.exception.value, first)
        self.assertEqual(basket.rides, 0)


if __name__ == "__main__":
    unittest.main()
