"""Towers as texts."""

from basketrope.bounds import MAX_PEOPLE
from basketrope.errors import BadText
from basketrope.towers import is_excess, is_weight

# No number in a text needs more; so a long row of digits is never made into a number.
MOST_DIGITS = 8
NO_WEIGHTS = "-"


def weights_text(weights):
    """Return the text of some weights, which may be none."""
    return ",".join([str(weight) for weight in weights]) if len(weights) > 0 else NO_WEIGHTS


def tower_text(tower):
    """Return the text of a tower."""
    excess, weights = tower
    return f"{excess} / {weights_text(weights)}"


def parse_number(word):
    """Return the number that a text stands for, or None if it is not written as one."""
    # Digits beyond ASCII are digits for Python, too.
    if not word.isascii() or not word.isdigit() or len(word) > MOST_DIGITS:
        return None
    if word.startswith("0") and word != "0":
        return None
    return int(word)


def parse_weights(word):
    """Return the weights that a text stands for, or None if it is not written as such."""
    if word == NO_WEIGHTS:
        return ()
    weights = tuple([parse_number(part) for part in word.split(",")])
    if len(weights) > MAX_PEOPLE or not all([is_weight(weight) for weight in weights]):
        return None
    return weights


def parse_tower(value):
    """Return the tower whose text any value is."""
    if not isinstance(value, str):
        raise BadText(None)
    words = value.split(" ")
    excess = parse_number(words[0])
    if not is_excess(excess):
        raise BadText(0)
    if len(words) == 1 or words[1] != "/":
        raise BadText(1)
    weights = parse_weights(words[2]) if len(words) > 2 else None
    if weights is None:
        raise BadText(2)
    if len(words) > 3:
        raise BadText(3)
    return (excess, weights)
