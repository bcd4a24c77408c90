"""Stones with which all people can come down."""

from basketrope.reach import reach_weight
from basketrope.towers import is_weight


def stones_for(tower):
    """Return the weights of stones with which all people can come down, as few as can be, ascending."""
    excess, weights = tower
    stones = []
    most = excess
    for weight in sorted(weights):
        while weight > most:
            stones.append(most)
            most = most + most
        most = most + weight
    return tuple(stones)


def fewest_stones(tower):
    """Return the least number of stones with which all people can come down."""
    return len(stones_for(tower))


def stones_hold(tower, value):
    """Tell whether any value is a tuple of weights of stones with which all people can come down."""
    if not isinstance(value, tuple) or not all([is_weight(stone) for stone in value]):
        return False
    excess, weights = tower
    # Stones get in like people; and with the heaviest person, each lighter one can come down, too.
    return max([0, *weights]) <= reach_weight((excess, (*weights, *value)))
