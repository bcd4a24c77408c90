"""Loads of weights, and baskets that compare two of them."""

from basketrope.bounds import MAX_LOAD
from basketrope.checks import is_number_between
from basketrope.errors import BadExcess, BadLoad, Missing, NoPlace, TooMuch
from basketrope.towers import is_excess, is_weight


def missing_weight(weights, others):
    """Return the smallest of the other weights, sorted, that is there more often, or None."""
    for weight in others:
        if others.count(weight) > weights.count(weight):
            return weight
    return None


class Load:
    """Some weights, however they are ordered."""

    def __init__(self, weights):
        if not isinstance(weights, tuple) or len(weights) > MAX_LOAD:
            raise BadLoad(weights)
        if not all([is_weight(weight) for weight in weights]):
            raise BadLoad(weights)
        self._weights = tuple(sorted(weights))
        self._total = sum(weights)

    @property
    def weights(self):
        """The tuple of the weights, sorted from the smallest to the largest."""
        return self._weights

    @property
    def total(self):
        """The sum of the weights."""
        return self._total

    def __getitem__(self, at):
        if not is_number_between(at, 0, len(self._weights) - 1):
            raise NoPlace(at)
        return self._weights[at]

    # Python would go through the places otherwise, and end with an error of the last one.
    def __iter__(self):
        raise TypeError("a load is not iterated over")

    def __add__(self, other):
        if not isinstance(other, Load):
            return NotImplemented
        if len(self._weights) + len(other.weights) > MAX_LOAD:
            raise TooMuch()
        return Load((*self._weights, *other.weights))

    def __sub__(self, other):
        if not isinstance(other, Load):
            return NotImplemented
        missing = missing_weight(self._weights, other.weights)
        if missing is not None:
            raise Missing(missing)
        rest = list(self._weights)
        for weight in other.weights:
            rest.remove(weight)
        return Load(tuple(rest))

    def __contains__(self, value):
        return isinstance(value, Load) and missing_weight(self._weights, value.weights) is None

    def __len__(self):
        return len(self._weights)

    def __str__(self):
        return "".join([f"{weight:>8,}" for weight in self._weights])

    def __eq__(self, other):
        return isinstance(other, Load) and self._weights == other.weights


class Basket:
    """A callable that tells by how much one load is heavier than another, within its excess."""

    def __init__(self, excess):
        if not is_excess(excess):
            raise BadExcess(excess)
        self._excess = excess
        self._rides = 0

    @property
    def excess(self):
        """The number by which one load may be heavier at most."""
        return self._excess

    @property
    def rides(self):
        """The number of calls that returned a number."""
        return self._rides

    def __call__(self, one, other):
        for value in (one, other):
            if not isinstance(value, Load):
                raise BadLoad(value)
        difference = one.total - other.total
        if not is_number_between(difference, 1, self._excess):
            return None
        self._rides += 1
        return difference
