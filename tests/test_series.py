"""[16.1] and wholerises.mirror.series."""

import random
from fractions import Fraction
from math import factorial

from wholerises.errors import InvalidNumber, InvalidOperation, InvalidSeries
from wholerises.mirror import series as module
from wholerises.mirror.series import (
    harmonic, is_series, series_back, series_exp, series_log, series_product, series_quotient)
from tests.support import LONG, NO_INTEGERS, OBJECTS, WRONG, Case, fraction, pair

ONE, ZERO = (1, 1), (0, 1)
LONGEST = (10 ** 400, 1), (1, 10 ** 400 + 1), (-(10 ** 90), 7)
NO_SERIES = tuple(value for value in WRONG + OBJECTS) + (
    1, (1, 2), [ONE], (ONE, 1), (ONE, [0, 1]), (ONE, (2, 4)), (ONE, (1, 0)), (ONE, (1, -2)), (ONE, (0, 2)),
    ((True, 1),), ((1, True),), (ONE, None), (ONE, (1,)), (ONE, (1, 1, 1)), ((10 ** 400, 10 ** 400),), (ONE,) * 26,
    {0: ONE}, ("1/1",), (("1", 1),))


def drawn(many, seed, first=None, great=False):
    """A drawn series of so many terms, the same one in each run."""
    drawing = random.Random(seed)
    most = 10 ** 70 if great else 9
    terms = [Fraction(drawing.randint(-most, most), drawing.randint(1, most)) for _ in range(many)]
    if first is not None:
        terms[0] = Fraction(first)
    return tuple(pair(term) for term in terms)


def plain_product(one, other):
    """The product of two lists of fractions, by the definition."""
    return [sum(one[k] * other[n - k] for k in range(n + 1)) for n in range(min(len(one), len(other)))]


def plain_exp(terms):
    """The exp of a list of fractions, by the sum of its powers."""
    power = [Fraction(1)] + [Fraction(0)] * (len(terms) - 1)
    total = [Fraction(0)] * len(terms)
    for n in range(len(terms)):
        total = [one + two / factorial(n) for one, two in zip(total, power)]
        power = plain_product(power, terms)
    return total


def put_into(one, other):
    """What a list of fractions becomes with another one, whose term 0 is 0, in the place of z."""
    power = [Fraction(1)] + [Fraction(0)] * (len(other) - 1)
    total = [Fraction(0)] * len(other)
    for term in one:
        total = [before + term * item for before, item in zip(total, power)]
        power = plain_product(power, other)
    return total


def fractions(series):
    """A series as a list of fractions."""
    return [fraction(term) for term in series]


def ratios(terms):
    """A list of fractions as a series."""
    return tuple(pair(term) for term in terms)


class Judged(Case):

    def test_constant(self):
        self.same(module.MAX_TERMS, 25)

    def test_series(self):
        right = ((ONE,), (ZERO,), (ZERO,) * 25, LONGEST, drawn(25, 1), drawn(3, 2, great=True))
        self.judges(is_series, right, NO_SERIES)


class Products(Case):

    def test_products_and_quotients(self):
        for many in (1, 2, 3, 7, 25):
            for other in (1, 2, 5, 25):
                for great in (False, True):
                    left, right = drawn(many, many, great=great), drawn(other, 100 + other, great=great)
                    product = ratios(plain_product(fractions(left), fractions(right)))
                    self.same(series_product(left, right), product)
                    self.same(series_product(right, left), product)
                    if right[0] != ZERO:
                        least = min(many, other)
                        found = series_quotient(left, right)
                        self.same(len(found), least)
                        self.same(ratios(plain_product(fractions(found), fractions(right))), left[:least])

    def test_terms_of_both_signs(self):
        for first in (1, -1, Fraction(-3, 7), Fraction(5, 2), 10 ** 90):
            left, right = drawn(9, 3), drawn(9, 4, first)
            self.same(ratios(plain_product(fractions(series_quotient(left, right)), fractions(right))), left)
        self.same(series_quotient((ONE,) * 4, (ONE, (-1, 1), ZERO, ZERO)), ((1, 1), (2, 1), (3, 1), (4, 1)))
        self.same(series_product(LONGEST, LONGEST), ratios(plain_product(fractions(LONGEST), fractions(LONGEST))))

    def test_they_refuse(self):
        for action in (series_product, series_quotient):
            self.refused_each(InvalidSeries, action, NO_SERIES, (ONE,))
            self.refused_each(InvalidSeries, lambda value: action((ONE,), value), NO_SERIES)
            self.refused(InvalidSeries, action, None, None)
        for value in ((ZERO,), (ZERO, ONE), (ZERO,) * 25):
            self.refused(InvalidOperation, series_quotient, (ONE,), value)
            self.refused(InvalidOperation, series_quotient, value, value)
        self.refused(InvalidSeries, series_quotient, None, (ZERO,))


class Exps(Case):

    def test_exps_and_logs(self):
        for many in (1, 2, 3, 6, 12, 25):
            for seed in (7, 8):
                for great in (False, True):
                    terms = drawn(many, seed, 0, great and many < 8)
                    found = series_exp(terms)
                    self.same(found, ratios(plain_exp(fractions(terms))))
                    self.same(series_log(found), terms)
                    other = drawn(many, seed, 1, great and many < 8)
                    made = series_log(other)
                    self.same(made[0], ZERO)
                    self.same(ratios(plain_exp(fractions(made))), other)

    def test_some(self):
        self.same(series_exp((ZERO, ONE, ZERO, ZERO)), (ONE, ONE, (1, 2), (1, 6)))
        self.same(series_log((ONE, (-1, 1), ZERO, ZERO)), (ZERO, (-1, 1), (-1, 2), (-1, 3)))
        self.same((series_exp((ZERO,)), series_log((ONE,))), ((ONE,), (ZERO,)))

    def test_they_refuse(self):
        for action in (series_exp, series_log, series_back):
            self.refused_each(InvalidSeries, action, NO_SERIES)
        for first in (ONE, (-1, 1), (1, 2), (10 ** 90, 1)):
            self.refused(InvalidOperation, series_exp, (first, ONE))
        for first in (ZERO, (-1, 1), (1, 2), (10 ** 90, 1)):
            self.refused(InvalidOperation, series_log, (first, ONE))


class Backs(Case):

    def test_backs(self):
        for many in (2, 3, 4, 5, 8, 9, 10, 16, 17, 25):
            for first in (1, -1, Fraction(2, 3), Fraction(-5, 4), 3):
                terms = list(drawn(many, many, 0))
                terms[1] = pair(first)
                found = series_back(tuple(terms))
                unit = [Fraction(int(place == 1)) for place in range(many)]
                self.same(len(found), many)
                self.assertEqual(put_into(fractions(found), fractions(terms)), unit)
                if many < 10:
                    self.assertEqual(put_into(fractions(terms), fractions(found)), unit)
                    self.same(series_back(found), tuple(terms))

    def test_some(self):
        self.same(series_back((ZERO, ONE)), (ZERO, ONE))
        self.same(series_back((ZERO, (2, 1))), (ZERO, (1, 2)))
        self.same(series_back((ZERO, ONE, (-1, 1), ZERO, ZERO, ZERO)), (ZERO, ONE, ONE, (2, 1), (5, 1), (14, 1)))

    def test_they_refuse(self):
        for value in ((ZERO,), (ONE,), (ONE, ONE), (ZERO, ZERO), (ZERO, ZERO, ONE), ((1, 2), ONE), (ZERO,) * 25):
            self.refused(InvalidOperation, series_back, value)


class Harmonics(Case):

    def test_harmonics(self):
        total = Fraction(0)
        for number in range(0, 120):
            total += Fraction(1, number) if number else 0
            self.same(harmonic(number), pair(total))
        self.same(harmonic(2000), pair(sum(Fraction(1, number) for number in range(1, 2001))))
        self.same((harmonic(0), harmonic(1)), ((0, 1), (1, 1)))

    def test_they_refuse(self):
        self.refused_each(InvalidNumber, harmonic, NO_INTEGERS + (-1, 2001, LONG))
