"""Reckoning with fractions: pairs (top, bottom) in lowest terms, bottom above 0."""

from math import gcd

NOUGHT = (0, 1)


def ratio(top, bottom):
    """The fraction top / bottom of two integers; the bottom is not 0."""
    shared = gcd(top, bottom)
    if bottom < 0:
        shared = -shared
    return (top // shared, bottom // shared)


def whole(number):
    """The fraction that is this integer."""
    return (number, 1)


def plus(one, other):
    """The sum of two fractions."""
    return ratio(one[0] * other[1] + other[0] * one[1], one[1] * other[1])


def minus(one, other):
    """The first fraction less the second."""
    return ratio(one[0] * other[1] - other[0] * one[1], one[1] * other[1])


def times(one, other):
    """The product of two fractions."""
    return ratio(one[0] * other[0], one[1] * other[1])


def over(one, other):
    """The first fraction divided by the second, which is not nought."""
    return ratio(one[0] * other[1], one[1] * other[0])


def blend(a, x, b, y):
    """a * x + b * y for two integers a, b and two fractions x, y."""
    return ratio(a * x[0] * y[1] + b * y[0] * x[1], x[1] * y[1])


def is_less(one, other):
    """Whether the first fraction is below the second."""
    return one[0] * other[1] < other[0] * one[1]


def lesser(one, other):
    """The lesser of two fractions; None counts as greater than each."""
    if one is None or (other is not None and is_less(other, one)):
        return other
    return one


def greater(one, other):
    """The greater of two fractions; None counts as less than each."""
    if one is None or (other is not None and is_less(one, other)):
        return other
    return one
