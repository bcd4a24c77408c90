"""Promises of a least number."""

from basketrope.bounds import LIMIT
from basketrope.checks import is_number_between
from basketrope.errors import BadNumber, TooLow


def check_number(value):
    """Raise an error unless any value is a number within the limit."""
    if not is_number_between(value, 0, LIMIT):
        raise BadNumber(value)


class Promise:
    """A promise that a number is not less than the least one."""

    def __init__(self, least):
        check_number(least)
        self._least = least

    @property
    def least(self):
        """The least number that keeps the promise."""
        return self._least

    def beyond(self, number):
        """Return by how much any number that keeps the promise is more than the least one."""
        check_number(number)
        if number < self._least:
            raise TooLow(number)
        return number - self._least
