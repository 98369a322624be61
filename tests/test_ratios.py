"""[1.5], [1.6] and the functions of wholerises.base.ratios."""

from fractions import Fraction
from math import ceil, floor

from wholerises.base.ratios import (
    ceiling_of, compare, exponent_of, floor_of, is_ratio, lowest, minus, over, part_of, plus, times)
from wholerises.errors import InvalidNumber, InvalidOperation, InvalidRatio
from tests.support import LONG, NO_INTEGERS, NO_PRIMES, NO_RATIOS, Case, exponent_in, fraction, pair

SOME = sorted({Fraction(top, bottom) for top in range(-7, 8) for bottom in range(1, 7)})
ODD = (LONG, LONG - 1)


class Making(Case):

    def test_is_ratio(self):
        self.judges(is_ratio, ((0, 1), (1, 1), (-1, 2), (LONG, 1), (-LONG, 1), (1, LONG), ODD), NO_RATIOS)

    def test_lowest(self):
        self.same([lowest(4, -6), lowest(-4, -6), lowest(0, -5), lowest(0, 7), lowest(6, 3), lowest(7, 9)],
                  [(-2, 3), (2, 3), (0, 1), (0, 1), (2, 1), (7, 9)])
        self.same([lowest(LONG, LONG), lowest(-LONG, LONG - 1)], [(1, 1), (-LONG, LONG - 1)])
        for top in range(-12, 13):
            for bottom in list(range(-9, 0)) + list(range(1, 10)):
                self.same(lowest(top, bottom), pair(Fraction(top, bottom)))

    def test_lowest_refuses(self):
        self.refused_each(InvalidNumber, lowest, NO_INTEGERS, 2)
        self.refused_each(InvalidNumber, lambda bottom: lowest(3, bottom), NO_INTEGERS + (0,))
        self.refused(InvalidNumber(None), lowest, None, True)
        self.refused(InvalidNumber(None), lowest, None, 0)
        self.refused(InvalidNumber(0), lowest, 0, 0)


class Reckoning(Case):

    def test_sums_and_products(self):
        for one in SOME:
            for other in SOME:
                given = (pair(one), pair(other))
                self.same(compare(*given), (one > other) - (one < other))
                self.same(plus(*given), pair(one + other))
                self.same(minus(*given), pair(one - other))
                self.same(times(*given), pair(one * other))
                if other:
                    self.same(over(*given), pair(one / other))

    def test_long_ones(self):
        other = (LONG - 2, LONG - 3)
        self.same(plus(ODD, other), pair(fraction(ODD) + fraction(other)))
        self.same(minus(ODD, other), pair(fraction(ODD) - fraction(other)))
        self.same(times(ODD, ODD), pair(fraction(ODD) ** 2))
        self.same(over(ODD, (-1, LONG)), pair(fraction(ODD) * -LONG))
        self.same([compare(ODD, other), compare(other, ODD), compare(ODD, ODD)], [-1, 1, 0])

    def test_they_refuse(self):
        for action in (compare, plus, minus, times, over):
            self.refused_each(InvalidRatio, action, NO_RATIOS, (1, 2))
            self.refused_each(InvalidRatio, lambda other: action((1, 2), other), NO_RATIOS)
        self.refused(InvalidOperation, over, (1, 2), (0, 1))
        self.refused(InvalidOperation, over, (0, 1), (0, 1))
        self.refused(InvalidRatio, over, (1, 0), (0, 1))


class Parts(Case):

    def test_floors_ceilings_and_parts(self):
        for one in SOME:
            self.same(floor_of(pair(one)), floor(one))
            self.same(ceiling_of(pair(one)), ceil(one))
            part = fraction(part_of(pair(one)))
            self.same(part_of(pair(one)), pair(part))
            self.assertTrue(0 < part <= 1 and (one - part).denominator == 1)

    def test_long_ones(self):
        self.same([floor_of(ODD), ceiling_of(ODD), part_of(ODD)], [1, 2, (1, LONG - 1)])
        self.same([floor_of((-LONG, 1)), ceiling_of((-LONG, 1)), part_of((LONG, 1))], [-LONG, -LONG, (1, 1)])

    def test_floors_add_up(self):
        for one in SOME:
            for number in range(1, 6):
                total = sum(floor_of(pair(one + Fraction(k, number))) for k in range(number))
                self.assertEqual(total, floor_of(pair(number * one)))

    def test_they_refuse(self):
        for action in (floor_of, ceiling_of, part_of):
            self.refused_each(InvalidRatio, action, NO_RATIOS)


class Exponents(Case):

    def test_exponents(self):
        for one in SOME:
            for prime in (2, 3, 5, 7, 999983):
                if one:
                    self.same(exponent_of(prime, pair(one)), exponent_in(prime, one))
        self.same([exponent_of(2, (2 ** 190, 1)), exponent_of(2, (1, 2 ** 190)), exponent_of(3, (-3 ** 120, 5))],
                  [190, -190, 120])

    def test_exponents_tell_the_fraction(self):
        for one in SOME:
            if one:
                product = Fraction(1)
                for prime in (2, 3, 5, 7):
                    product *= Fraction(prime) ** exponent_of(prime, pair(one))
                self.assertEqual(product, abs(one))

    def test_exponents_refuses(self):
        self.refused_each(InvalidNumber, exponent_of, NO_PRIMES, (1, 2))
        self.refused_each(InvalidRatio, lambda ratio: exponent_of(2, ratio), NO_RATIOS)
        self.refused(InvalidOperation, exponent_of, 2, (0, 1))
        self.refused(InvalidNumber(4), exponent_of, 4, (0, 1))
        self.refused(InvalidNumber(4), exponent_of, 4, (2, 4))
        self.refused(InvalidRatio, exponent_of, 2, (0, 2))
