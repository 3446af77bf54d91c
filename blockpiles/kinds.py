"""Tests of the kinds of values that callers pass, and fractions without a common divisor."""

from math import gcd

FRACTION_LIMIT = 10 ** 12


def is_whole(value, least, most):
    """Tell whether value is an integer from least to most."""
    if not isinstance(value, int) or isinstance(value, bool):
        return False
    return least <= value <= most


def is_tuple(value, many):
    """Tell whether value is a tuple of so many items."""
    return isinstance(value, tuple) and len(value) == many


def is_ascending(values):
    """Tell whether values that can be compared are ascending, without repetitions."""
    return all([values[k] < values[k + 1] for k in range(len(values) - 1)])


def reduced(top, bottom):
    """Return the fraction of an integer and one greater than 0."""
    common = gcd(top, bottom)
    return (top // common, bottom // common)


def is_fraction(value):
    """Tell whether value is a fraction."""
    if not is_tuple(value, 2):
        return False
    top, bottom = value
    if not is_whole(top, -FRACTION_LIMIT, FRACTION_LIMIT):
        return False
    return is_whole(bottom, 1, FRACTION_LIMIT) and gcd(top, bottom) == 1


def is_share(value):
    """Tell whether value is a fraction that is at least 0."""
    return is_fraction(value) and value[0] >= 0


def is_share_pair(value):
    """Tell whether value has two shares, one for each end of a contact."""
    return is_tuple(value, 2) and is_share(value[0]) and is_share(value[1])
