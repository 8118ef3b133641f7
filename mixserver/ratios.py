"""Fractions: tuples (top, bottom) in lowest terms, the bottom above 0."""

from math import gcd

NOTHING = (0, 1)


def ratio(top, bottom):
    """Tell top / bottom in lowest terms; the bottom is above 0."""
    shared = gcd(top, bottom)
    return (top // shared, bottom // shared)


def plus(one, other):
    return ratio(one[0] * other[1] + other[0] * one[1], one[1] * other[1])


def minus(one, other):
    return ratio(one[0] * other[1] - other[0] * one[1], one[1] * other[1])


def times(one, other):
    return ratio(one[0] * other[0], one[1] * other[1])
