"""What several modules ask of a value."""


def is_number_between(value, low, high):
    """Tell whether any value is a number from low to high."""
    # Python counts True as 1 and False as 0; here neither is a number.
    return isinstance(value, int) and not isinstance(value, bool) and low <= value <= high
