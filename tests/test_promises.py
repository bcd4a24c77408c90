"""Promise: its least number and beyond."""

import unittest

from basketrope.errors import BadNumber, TooLow
from basketrope.promises import Promise
from basketrope.values import Load
from tests.raising import check_only_read, check_raises
from tests.samples import LONGEST_INT, odd_values

LIMIT = 10 ** 8

WRONG = (
    None, True, False, -1, LIMIT + 1, LONGEST_INT, -LONGEST_INT, "", "3", (), (3,), [3], {}, Load((3,)), Promise(3),
)


class Made(unittest.TestCase):
    def test_numbers_at_the_bounds(self):
        for least in (0, 1, 2, LIMIT - 1, LIMIT):
            self.assertEqual(repr(Promise(least).least), repr(least))

    def test_values_that_are_none(self):
        for value in WRONG:
            check_raises(self, BadNumber, value, Promise, value)
        for value in odd_values():
            if type(value) is not int:
                check_raises(self, BadNumber, value, Promise, value)

    def test_least_is_only_read(self):
        made = Promise(3)
        check_only_read(self, made, "least")
        made.beyond(5)
        check_raises(self, TooLow, 2, made.beyond, 2)
        check_raises(self, BadNumber, -1, made.beyond, -1)
        self.assertEqual(made.least, 3)

    def test_each_promise_by_itself(self):
        one, other = Promise(3), Promise(4)
        self.assertEqual([one.least, other.least, one.beyond(4), other.beyond(4)], [3, 4, 1, 0])


class Beyond(unittest.TestCase):
    def test_numbers_that_keep_the_promise(self):
        for least in (0, 1, 3, 1000, LIMIT - 1, LIMIT):
            made = Promise(least)
            for number in (least, least + 1, least + 7, LIMIT - 1, LIMIT):
                if least <= number <= LIMIT:
                    self.assertEqual(repr(made.beyond(number)), repr(number - least))
                    self.assertEqual(repr(made.beyond(number)), repr(number - least))

    def test_numbers_that_are_too_low(self):
        for least in (1, 3, 1000, LIMIT):
            for number in (0, 1, least - 2, least - 1):
                if 0 <= number < least:
                    check_raises(self, TooLow, number, Promise(least).beyond, number)

    def test_values_that_are_no_numbers(self):
        # With least at LIMIT, each number that is less would be too low.
        for least in (0, 3, LIMIT):
            made = Promise(least)
            for value in WRONG:
                check_raises(self, BadNumber, value, made.beyond, value)
            for value in odd_values():
                if type(value) is not int:
                    check_raises(self, BadNumber, value, made.beyond, value)


if __name__ == "__main__":
    unittest.main()
