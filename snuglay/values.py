"""What integers, sequences and fractions are, among any values."""

from math import gcd


def is_whole(value):
    """Whether the value is an integer; True and False are none."""
    return isinstance(value, int) and not isinstance(value, bool)


def is_from_to(value, least, most):
    """Whether the value is an integer from least to most."""
    return is_whole(value) and least <= value <= most


def is_row(value, least, most):
    """Whether the value is a sequence of at least and at most so many things."""
    return isinstance(value, (list, tuple)) and least <= len(value) <= most


def is_fraction(value):
    """Whether the value is a pair (top, bottom) in lowest terms, bottom above 0."""
    if not is_row(value, 2, 2):
        return False
    top, bottom = value
    if not is_whole(top) or not is_whole(bottom):
        return False
    return bottom > 0 and gcd(top, bottom) == 1


def plain(value):
    """The value with plain tuples for its sequences, at every level."""
    if isinstance(value, (list, tuple)):
        return tuple([plain(item) for item in value])
    return value
