"""What is asked of integers and ratios, wherever they are passed."""

from math import gcd

from groupsover.errors import TooMany

MOST_DIGITS = 60
FIRST_TOO_LONG = 10 ** 60


def is_short(number):
    """Whether an integer has at most sixty digits."""
    return -FIRST_TOO_LONG < number < FIRST_TOO_LONG


def is_integer(value):
    """Whether the value is an integer that can be passed."""
    return isinstance(value, int) and not isinstance(value, bool) and is_short(value)


def is_within(value, least, most):
    """Whether the value is an integer from the least to the most one."""
    return is_integer(value) and least <= value <= most


def are_integers(value, many):
    """Whether the value is a tuple of so many integers."""
    return isinstance(value, tuple) and len(value) == many and all([is_integer(entry) for entry in value])


def is_ratio(value):
    """Whether the value is a fraction modulo 1 in its lowest terms."""
    return are_integers(value, 2) and 0 <= value[0] < value[1] and gcd(value[0], value[1]) == 1


def need_short(value):
    """Refuse what was made with an integer of more than sixty digits."""
    if not all([is_short(entry) for entry in value]):
        raise TooMany(MOST_DIGITS)
