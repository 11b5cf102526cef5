"""Part A's fractions: quaybest.fractions."""

import math
from fractions import Fraction

from quaybest.fractions import added, common_divisor, divided, fraction, is_less, multiplied, subtracted
from support import Case


def pair(value):
    return (value.numerator, value.denominator)


NUMBERS = [0, 1, -1, 2, -2, 3, 4, 6, -6, 9, 12, -15, 100, 10 ** 30]
FRACTIONS = [Fraction(number, divisor) for number in NUMBERS for divisor in (1, 2, 3, 4, 9, 12)]


class FractionsTest(Case):
    """Fractions in lowest terms, the denominator at least 1."""

    def test_fraction(self):
        for number in NUMBERS:
            for divisor in NUMBERS:
                if divisor:
                    self.same(fraction(number, divisor), pair(Fraction(number, divisor)))
            self.same(fraction(number), (number, 1))

    def test_zero_and_signs(self):
        self.same(fraction(0, -5), (0, 1))
        self.same(fraction(3, -6), (-1, 2))
        self.same(fraction(-3, -6), (1, 2))

    def test_two_fractions(self):
        for first in FRACTIONS:
            for second in FRACTIONS:
                one, other = pair(first), pair(second)
                self.same(added(one, other), pair(first + second))
                self.same(subtracted(one, other), pair(first - second))
                self.same(multiplied(one, other), pair(first * second))
                self.same(is_less(one, other), first < second)
                if second:
                    self.same(divided(one, other), pair(first / second))

    def test_common_divisor(self):
        for first in NUMBERS:
            for second in NUMBERS:
                if first or second:
                    self.same(common_divisor(first, second), math.gcd(first, second))
        self.same(common_divisor(-4, -6), 2)
        self.same(common_divisor(0, -7), 7)
        self.same(common_divisor(-7, 0), 7)
