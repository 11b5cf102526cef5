"""Exact fractions: pairs (numerator, denominator) in lowest terms, the denominator at least 1."""

from math import gcd


def common_divisor(first, second):
    """The greatest common divisor of two integers of which one is not 0."""
    return gcd(first, second)


def fraction(number, divisor=1):
    """The fraction of two integers, the second one not 0."""
    common = common_divisor(number, divisor)
    if divisor < 0:
        common = -common
    return number // common, divisor // common


def added(first, second):
    """The sum of two fractions."""
    return fraction(first[0] * second[1] + second[0] * first[1], first[1] * second[1])


def subtracted(first, second):
    """The first of two fractions less the second one."""
    return fraction(first[0] * second[1] - second[0] * first[1], first[1] * second[1])


def multiplied(first, second):
    """The product of two fractions."""
    return fraction(first[0] * second[0], first[1] * second[1])


def divided(first, second):
    """The first of two fractions divided by the second one, which is not zero."""
    return fraction(first[0] * second[1], first[1] * second[0])


def is_less(first, second):
    """True if the first of two fractions is less than the second one."""
    return first[0] * second[1] < second[0] * first[1]
