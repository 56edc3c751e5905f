"""Ratios: pairs (top, bottom) in lowest terms with a positive bottom."""

from math import gcd, lcm

ZERO = (0, 1)
ONE = (1, 1)


def ratio(top, bottom):
    """Return top / bottom as a ratio; the bottom is not 0."""
    common = gcd(top, bottom)
    if bottom < 0:
        common = -common
    return (top // common, bottom // common)


def plus(one, two):
    """Return the sum of two ratios."""
    return ratio(one[0] * two[1] + two[0] * one[1], one[1] * two[1])


def minus(one, two):
    """Return the first ratio less the second one."""
    return ratio(one[0] * two[1] - two[0] * one[1], one[1] * two[1])


def times(one, two):
    """Return the product of two ratios."""
    return ratio(one[0] * two[0], one[1] * two[1])


def over(one, two):
    """Return the first ratio divided by the second one, which is not zero."""
    return ratio(one[0] * two[1], one[1] * two[0])


def below(one, two):
    """Return True if the first ratio is less than the second one."""
    return one[0] * two[1] < two[0] * one[1]


def total(ratios):
    """Return the sum of a list of ratios."""
    # One common bottom is far cheaper than reducing a growing sum for each ratio.
    shared = 1
    for _, bottom in ratios:
        shared = lcm(shared, bottom)
    return ratio(sum([top * (shared // bottom) for top, bottom in ratios]), shared)
