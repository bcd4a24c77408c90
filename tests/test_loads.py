"""Load: what it is made of, its operators, its text and when it equals something."""

import collections
import itertools
import operator
import random
import unittest

from basketrope.errors import BadLoad, Missing, NoPlace, TooMuch
from basketrope.values import Basket, Load
from tests.raising import check_only_read, check_raises, check_raises_bare
from tests.samples import WRONG_NUMBERS, check_equal, odd_values

TOP = 10 ** 6
SOME = ((), (1,), (TOP,), (9, 3, 9), (5, 4, 3, 2, 1), (7,) * 6, (TOP, 1, TOP - 1, 1000, 999, 1000))


def drawn_weights(draw, many):
    """Return so many weights, of which many are equal if the greatest one that is drawn from is small."""
    most = draw.choice([2, 5, 30, TOP])
    return tuple([draw.randint(1, most) for _ in range(many)])


def plain_missing(weights, others):
    """Return all weights that the others have more often, ascending."""
    counts = collections.Counter(weights)
    return sorted([weight for weight, often in collections.Counter(others).items() if often > counts[weight]])


class LoadTest(unittest.TestCase):
    def check(self, load, weights):
        """Check that the load has just these weights."""
        expected = tuple(sorted(weights))
        self.assertIs(type(load), Load)
        self.assertEqual(repr(load.weights), repr(expected))
        self.assertEqual(repr(load.total), repr(sum(expected)))
        self.assertEqual(len(load), len(expected))
        self.assertEqual([load[place] for place in range(len(expected))], list(expected))


class Made(LoadTest):
    def test_in_any_order(self):
        for weights in itertools.permutations((20, 3, 9, 3)):
            self.check(Load(weights), (3, 3, 9, 20))

    def test_of_none_to_a_hundred(self):
        draw = random.Random(1)
        for many in range(101):
            weights = drawn_weights(draw, many)
            self.check(Load(weights), weights)
        for weight in (1, TOP):
            self.check(Load((weight,) * 100), (weight,) * 100)

    def test_of_more(self):
        for many in (101, 102, 1000):
            weights = (5,) * many
            check_raises(self, BadLoad, weights, Load, weights)

    def test_the_argument_stays_as_it_is(self):
        weights = (9, 3, 9)
        self.check(Load(weights), (3, 9, 9))
        self.assertEqual(weights, (9, 3, 9))

    def test_weights_at_the_bounds(self):
        self.check(Load((1, TOP)), (1, TOP))
        for wrong in (0, TOP + 1, -1):
            check_raises(self, BadLoad, (wrong,), Load, (wrong,))

    def test_a_wrong_weight_at_each_place(self):
        for wrong in WRONG_NUMBERS:
            for at in range(4):
                weights = (2,) * at + (wrong,) + (3,) * (3 - at)
                check_raises(self, BadLoad, weights, Load, weights)
            weights = (1,) * 99 + (wrong,)
            check_raises(self, BadLoad, weights, Load, weights)

    def test_values_that_are_no_tuples_of_weights(self):
        for value in odd_values():
            if value != ():
                check_raises(self, BadLoad, value, Load, value)
        for value in [[1], [9, 3, 9], {"1": 1}, "12", 5, Load((5,)), Load(()), (Load((5,)),), ((1, 2),), ([1],)]:
            check_raises(self, BadLoad, value, Load, value)

    def test_the_very_value(self):
        for value in [[3, 9], {}, ([],), Load((3,))]:
            with self.assertRaises(BadLoad) as caught:
                Load(value)
            self.assertIs(caught.exception.value, value)

    def test_attributes_are_only_read(self):
        for weights in SOME:
            load = Load(weights)
            for name in ("weights", "total"):
                check_only_read(self, load, name)
            self.check(load, weights)

    def test_each_load_by_itself(self):
        one = Load((3, 9))
        other = Load((1,))
        self.check(one, (3, 9))
        self.check(other, (1,))


class Places(unittest.TestCase):
    def test_each_place(self):
        draw = random.Random(2)
        for many in (1, 2, 3, 24, 100):
            weights = drawn_weights(draw, many)
            load = Load(weights)
            for place, weight in enumerate(sorted(weights)):
                self.assertEqual(repr(load[place]), repr(weight))

    def test_no_place(self):
        for weights in SOME:
            load = Load(weights)
            numbers = [-1, -2, len(weights), len(weights) + 1, -len(weights) - 1, 10 ** 39, -10 ** 39]
            for value in [*numbers, True, False, None, "0", "", "a", (), (0,), [], [0], {}, Load(()), Load((1,))]:
                check_raises(self, NoPlace, value, operator.getitem, load, value)
            self.assertEqual(load.weights, tuple(sorted(weights)))

    def test_odd_values(self):
        load = Load((3, 4))
        for value in odd_values():
            if repr(value) in ("0", "1"):
                self.assertEqual(load[value], 3 + value)
            else:
                check_raises(self, NoPlace, value, operator.getitem, load, value)

    def test_kind_of_the_error(self):
        for value in (-1, 2, True, None):
            with self.assertRaises(LookupError) as caught:
                Load((3, 4))[value]
            self.assertNotIsInstance(caught.exception, ValueError)
            self.assertNotIsInstance(caught.exception, IndexError)

    def test_no_loop(self):
        for weights in SOME:
            load = Load(weights)
            for function in (iter, list, tuple, sorted, sum, max, set, enumerate):
                with self.assertRaises(TypeError):
                    function(load)
            with self.assertRaises(TypeError):
                for _ in load:
                    self.fail("a loop over a load goes on")
            with self.assertRaises(TypeError):
                first, *_ = load


class Operators(LoadTest):
    def drawn_pairs(self, seed):
        """Return pairs of tuples of weights."""
        draw = random.Random(seed)
        for _ in range(300):
            weights = drawn_weights(draw, draw.randint(0, 12))
            part = tuple(draw.sample(weights, draw.randint(0, len(weights))))
            yield weights, part
            yield weights, drawn_weights(draw, draw.randint(0, 4))
            yield weights, (*part, *drawn_weights(draw, draw.randint(0, 2)))

    def test_plus(self):
        for weights, others in self.drawn_pairs(3):
            one, other = Load(weights), Load(others)
            self.check(one + other, (*weights, *others))
            self.check(other + one, (*weights, *others))
            self.check(one, weights)
            self.check(other, others)

    def test_plus_itself(self):
        one = Load((9, 3))
        self.check(one + one, (3, 3, 9, 9))
        self.check(one + one + one, (3, 3, 3, 9, 9, 9))
        self.check(one, (3, 9))

    def test_plus_up_to_a_hundred(self):
        for many, more in [(0, 100), (100, 0), (50, 50), (99, 1), (1, 99)]:
            self.check(Load((2,) * many) + Load((5,) * more), (2,) * many + (5,) * more)

    def test_plus_too_much(self):
        for many, more in [(1, 100), (100, 1), (50, 51), (51, 50), (100, 100)]:
            one, other = Load((2,) * many), Load((5,) * more)
            check_raises_bare(self, TooMuch, operator.add, one, other)
            self.check(one, (2,) * many)
            self.check(other, (5,) * more)

    def test_minus_and_in(self):
        for weights, others in self.drawn_pairs(4):
            one, other = Load(weights), Load(others)
            missing = plain_missing(weights, others)
            self.assertIs(other in one, missing == [], (weights, others))
            if missing:
                check_raises(self, Missing, missing[0], operator.sub, one, other)
            else:
                rest = collections.Counter(weights) - collections.Counter(others)
                self.check(one - other, tuple(rest.elements()))
                self.assertEqual(one - other + other, one)
            self.check(one, weights)
            self.check(other, others)

    def test_minus_itself_and_nothing(self):
        for weights in SOME:
            one = Load(weights)
            self.check(one - one, ())
            self.check(one - Load(()), weights)
            self.assertIs(one in one, True)
            self.assertIs(Load(()) in one, True)
            self.check(one, weights)
        check_raises(self, Missing, 1, operator.sub, Load(()), Load((1,)))

    def test_minus_equal_weights(self):
        one = Load((9, 3, 9, 9))
        self.check(one - Load((9,)), (3, 9, 9))
        self.check(one - Load((9, 9)), (3, 9))
        self.check(one - Load((9, 9, 9)), (3,))
        check_raises(self, Missing, 9, operator.sub, one, Load((9,) * 4))
        check_raises(self, Missing, 9, operator.sub, one, Load((9, 9, 3, 9, 9)))
        check_raises(self, Missing, 3, operator.sub, one, Load((9, 9, 3, 9, 9, 3)))

    def test_the_smallest_that_is_missing(self):
        one = Load((5, 6, 7))
        check_raises(self, Missing, 4, operator.sub, one, Load((8, 4, 9)))
        check_raises(self, Missing, 6, operator.sub, one, Load((8, 6, 6, 5)))
        check_raises(self, Missing, 1, operator.sub, one, Load((TOP, 1)))
        check_raises(self, Missing, TOP, operator.sub, one, Load((TOP, 5, 6, 7)))
        check_raises(self, Missing, 1, operator.sub, Load((9,) * 100), Load((9,) * 99 + (1,)))

    def test_in(self):
        one = Load((3, 9, 9))
        for weights in [(), (3,), (9,), (9, 9), (9, 3), (3, 9, 9)]:
            self.assertIs(Load(weights) in one, True, weights)
        for weights in [(1,), (3, 3), (9, 9, 9), (3, 9, 9, 1), (3, 3, 9), (4,), (3, 9, 9, 9)]:
            self.assertIs(Load(weights) in one, False, weights)

    def test_in_for_other_values(self):
        for weights in SOME:
            load = Load(weights)
            for value in [*odd_values(), *weights, weights, list(weights), Basket(3), (load,), [load]]:
                self.assertIs(value in load, False, value)
                self.assertIs(value not in load, True, value)

    def test_equal_calls(self):
        one, other = Load((3, 9, 9)), Load((9,))
        for function in (operator.add, operator.sub):
            self.assertEqual(function(one, other), function(Load((9, 9, 3)), Load((9,))))
            self.assertEqual(function(one, other).weights, function(one, other).weights)


class Texts(unittest.TestCase):
    def check(self, weights, expected):
        """Check the text of the load."""
        self.assertEqual(repr(str(Load(weights))), repr(expected))

    def test_texts(self):
        self.check((), "")
        self.check((7,), "       7")
        self.check((12000, 9), "       9  12,000")
        self.check((9, 12000, 9), "       9       9  12,000")
        self.check((999, 1000), "     999   1,000")
        self.check((100000, 99999), "  99,999 100,000")
        self.check((999999,), " 999,999")
        self.check((TOP,), "1,000,000")
        self.check((TOP, 5, TOP), "       51,000,0001,000,000")

    def test_a_hundred(self):
        self.check(tuple(range(1, 101)), "".join([str(weight).rjust(8) for weight in range(1, 101)]))


class Equal(unittest.TestCase):
    def test_the_same_weights_in_another_order(self):
        for weights in itertools.permutations((20, 3, 9, 3)):
            check_equal(self, Load(weights), Load((3, 20, 3, 9)), True)
        check_equal(self, Load(()), Load(()), True)

    def test_other_weights(self):
        for others in [(), (3,), (9,), (3, 9), (3, 9, 9, 9), (3, 3, 9), (12, 9), (21,), (4, 8, 9), (3, 9, 10)]:
            check_equal(self, Load((9, 3, 9)), Load(others), False)

    def test_other_values(self):
        for weights in SOME:
            load = Load(weights)
            for value in [*odd_values(), load.weights, weights, list(weights), load.total, len(load), str(load)]:
                check_equal(self, load, value, False)
            check_equal(self, load, Basket(3), False)

    def test_loads_in_tuples(self):
        self.assertEqual((Load((3, 9)), 1), (Load((9, 3)), 1))
        self.assertNotEqual((Load((3, 9)), 1), (Load((9,)), 1))


if __name__ == "__main__":
    unittest.main()
