"""Towers, and groups of their people."""

from basketrope.bounds import MAX_EXCESS, MAX_PEOPLE, MAX_WEIGHT
from basketrope.checks import is_number_between


def is_excess(value):
    """Tell whether any value is the excess of some tower."""
    return is_number_between(value, 1, MAX_EXCESS)


def is_weight(value):
    """Tell whether any value is the weight of somebody."""
    return is_number_between(value, 1, MAX_WEIGHT)


def is_tower(value):
    """Tell whether any value is a tower."""
    return tower_error(value) is None


def tower_error(value):
    """Return None for a tower, otherwise (person or None, the part that is wrong)."""
    if not isinstance(value, tuple) or len(value) != 2:
        return (None, "tower")
    excess, weights = value
    if not is_excess(excess):
        return (None, "excess")
    if not isinstance(weights, tuple) or len(weights) > MAX_PEOPLE:
        return (None, "weights")
    for person, weight in enumerate(weights):
        if not is_weight(weight):
            return (person, "weight")
    return None


def is_group(tower, value):
    """Tell whether any value is a group of the people of the tower."""
    if not isinstance(value, tuple):
        return False
    _, weights = tower
    # In an ascending tuple each person's number is beyond the one before.
    least = 0
    for person in value:
        if not is_number_between(person, least, len(weights) - 1):
            return False
        least = person + 1
    return True


def weight_of(tower, group):
    """Return the weight of a group of the people of the tower."""
    _, weights = tower
    return sum([weights[person] for person in group])
