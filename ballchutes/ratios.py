"""Fractions, as pairs of integers of which the second one is at least 1."""

from math import gcd

from ballchutes.checking import is_number

NOTHING = (0, 1)


def is_fraction(told):
    """Whether this is a fraction, with a common divisor or without."""
    if not isinstance(told, tuple) or len(told) != 2:
        return False
    return is_number(told[0]) and is_number(told[1]) and told[1] >= 1


def fraction(top, bottom):
    """The fraction without a common divisor that is as much as top over bottom, which is at least 1."""
    common = gcd(top, bottom)
    return top // common, bottom // common


def plus(one, other):
    """The sum of two fractions."""
    return fraction(one[0] * other[1] + other[0] * one[1], one[1] * other[1])


def minus(one, other):
    """What one fraction is more than another one."""
    return fraction(one[0] * other[1] - other[0] * one[1], one[1] * other[1])


def at_least(one, other):
    """Whether one fraction is not less than another one."""
    return one[0] * other[1] >= other[0] * one[1]


def same_fractions(one, other):
    """Whether two dicts have the same keys, and fractions of the same size there."""
    if sorted(one) != sorted(other):
        return False
    return all([same(one[key], other[key]) for key in one])


def same(one, other):
    """Whether these are two fractions of the same size."""
    return is_fraction(one) and is_fraction(other) and at_least(one, other) and at_least(other, one)


def gap(fractions):
    """The greatest of some fractions, of which there is at least one, less the least one."""
    most = least = fractions[0]
    for one in fractions:
        if at_least(one, most):
            most = one
        if at_least(least, one):
            least = one
    return minus(most, least)
