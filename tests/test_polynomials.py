"""[2.1], [2.2] and the functions of wholerises.base.polynomials."""

import random
from fractions import Fraction
from itertools import product
from math import gcd
from time import perf_counter

from wholerises.base import polynomials
from wholerises.base.polynomials import (
    cyclotomic, cyclotomic_parts, is_polynomial, polynomial_product, polynomial_quotient, polynomial_sum,
    polynomial_value)
from wholerises.errors import InvalidNumber, InvalidOperation, InvalidPolynomial, InvalidRatio, TooMany
from tests.support import LONG, NO_INTEGERS, NO_RATIOS, OBJECTS, WRONG, Case, fraction, pair

SOME = [given for size in (1, 2, 3) for given in product((-2, -1, 0, 1, 3), repeat=size) if size == 1 or given[-1]]
FULL = tuple(range(1, 42))
LARGEST = (LONG,) * 41
NO_POLYNOMIALS = WRONG + OBJECTS + (
    1, (0, 0), (1, 0), (0,) * 41, (1,) * 42, (True,), (1, True), (False,), (1, None), (1, "x"), ((1, 2), 3), [1, 2],
    (10 ** 60,), (1, 10 ** 60), (1, -10 ** 60, 1))


def plain_product(one, other):
    """The product by the definition, of any degree."""
    total = [0] * (len(one) + len(other) - 1)
    for i, item in enumerate(one):
        for j, factor in enumerate(other):
            total[i + j] += item * factor
    return tuple(total)


def degree_of(number):
    """How many integers from 1 to the number have no common divisor above 1 with it."""
    return sum(1 for k in range(1, number + 1) if gcd(k, number) == 1)


def drawn_parts(drawing, degree):
    """A drawn dict that tells a product of cyclotomic polynomials of this degree."""
    parts = {}
    left = degree
    while left > 0:
        number = drawing.choice([number for number in DEGREES if DEGREES[number] <= left])
        parts[number] = parts.get(number, 0) + 1
        left -= DEGREES[number]
    return dict(sorted(parts.items()))


def product_of_parts(parts):
    """The product of cyclotomic polynomials."""
    made = (1,)
    for number, times in parts.items():
        for _ in range(times):
            made = plain_product(made, cyclotomic(number))
    return made


DEGREES = {number: degree_of(number) for number in range(1, 700) if degree_of(number) <= 40}


class Sums(Case):

    def test_constants(self):
        self.same((polynomials.MAX_DEGREE, polynomials.MAX_CYCLOTOMIC), (40, 2520))

    def test_is_polynomial(self):
        self.judges(is_polynomial, ((0,), (1,), (-5,), (0, 1), (0, 0, 2), FULL, LARGEST, (-LONG,)), NO_POLYNOMIALS)

    def test_sum(self):
        for one in SOME:
            for other in SOME:
                size = max(len(one), len(other))
                total = [sum(pair) for pair in zip(one + (0,) * (size - len(one)), other + (0,) * (size - len(other)))]
                while len(total) > 1 and total[-1] == 0:
                    total.pop()
                self.same(polynomial_sum(one, other), tuple(total))
        self.same(polynomial_sum(FULL, tuple(-item for item in FULL)), (0,))
        self.same(polynomial_sum(LARGEST, LARGEST), (2 * LONG,) * 41)

    def test_product(self):
        for one in SOME:
            for other in SOME:
                wanted = (0,) if (0,) in (one, other) else plain_product(one, other)
                self.same(polynomial_product(one, other), wanted)
        self.same(polynomial_product(FULL, (2,)), tuple(2 * item for item in FULL))
        self.same(polynomial_product(FULL, (0,)), (0,))
        self.same(polynomial_product((1,) * 21, (LONG,) * 21)[20], 21 * LONG)

    def test_a_degree_that_is_too_great(self):
        self.refused(TooMany(40), polynomial_product, FULL, (0, 1))
        self.refused(TooMany(40), polynomial_product, (1,) * 21, (1,) * 22)
        self.refused(InvalidPolynomial, polynomial_product, FULL, (0, 1, 0))

    def test_they_refuse(self):
        for action in (polynomial_sum, polynomial_product, polynomial_quotient):
            self.refused_each(InvalidPolynomial, action, NO_POLYNOMIALS, (1, 1))
            self.refused_each(InvalidPolynomial, lambda other: action((1, 1), other), NO_POLYNOMIALS)


class Quotients(Case):

    def test_quotients_of_products(self):
        for one in SOME:
            for other in SOME:
                if other != (0,):
                    self.same(polynomial_quotient(polynomial_product(one, other), other), one)

    def test_no_quotient(self):
        for one, other in (((1,), (2,)), ((1, 1), (2,)), ((1,), (0, 1)), ((1, 0, 1), (1, 1)), ((1, 3, 2), (1, 4)),
                           ((1, 2, 1), (0, 1)), (FULL, (5, 3)), ((3, 1), (3, 1, 1))):
            self.assertIsNone(polynomial_quotient(one, other))

    def test_zero(self):
        self.same([polynomial_quotient((0,), other) for other in ((5,), (1, 1), FULL)], [(0,)] * 3)
        self.refused(InvalidOperation, polynomial_quotient, (1, 1), (0,))
        self.refused(InvalidOperation, polynomial_quotient, (0,), (0,))
        self.refused(InvalidPolynomial, polynomial_quotient, (0, 0), (0,))

    def test_large_ones(self):
        self.same(polynomial_quotient(FULL, FULL), (1,))
        self.same(polynomial_quotient(FULL, (-1,)), tuple(-item for item in FULL))
        self.same(polynomial_quotient((-1,) + (0,) * 39 + (1,), (-1, 1)), (1,) * 40)
        self.assertIsNone(polynomial_quotient(LARGEST, (10 ** 59, 1)))
        factor, rest = (-LONG, 10 ** 29, 1), (10 ** 30, -1)
        whole = plain_product((1, -1), rest)
        self.same(polynomial_quotient(whole, rest), (1, -1))
        self.assertIsNone(polynomial_quotient(whole, factor))


class Values(Case):

    def test_values(self):
        for given in SOME + [FULL, LARGEST]:
            for ratio in ((0, 1), (1, 1), (-1, 1), (1, 2), (-3, 7), (LONG, 2), (1, LONG)):
                wanted = sum(Fraction(item) * fraction(ratio) ** index for index, item in enumerate(given))
                self.same(polynomial_value(given, ratio), pair(wanted))

    def test_it_refuses(self):
        self.refused_each(InvalidPolynomial, polynomial_value, NO_POLYNOMIALS, (1, 2))
        self.refused_each(InvalidRatio, lambda ratio: polynomial_value((1, 2), ratio), NO_RATIOS)
        self.refused(InvalidPolynomial, polynomial_value, (1, 0), (1, 0))


class Cyclotomic(Case):

    def test_products_over_divisors(self):
        for number in range(1, 151):
            divisors = [d for d in range(1, number + 1) if number % d == 0]
            if all(degree_of(d) <= 40 for d in divisors):
                wanted = (-1,) + (0,) * (number - 1) + (1,)
                self.assertEqual(product_of_parts({d: 1 for d in divisors}), wanted)

    def test_some(self):
        self.same([cyclotomic(n) for n in (1, 2, 3, 4, 8, 15, 30)],
                  [(-1, 1), (1, 1), (1, 1, 1), (1, 0, 1), (1, 0, 0, 0, 1), (1, -1, 0, 1, -1, 1, 0, -1, 1),
                   (1, 1, 0, -1, -1, -1, 0, 1, 1)])
        self.same([min(cyclotomic(105 // 3)), len(cyclotomic(41)), len(cyclotomic(150))], [-1, 41, 41])

    def test_degrees_to_the_end(self):
        for number in range(1, 2521):
            if degree_of(number) <= 40:
                found = cyclotomic(number)
                self.same((len(found), found[-1]), (degree_of(number) + 1, 1))
            elif number < 200 or number > 2400:
                self.refused(TooMany(40), cyclotomic, number)

    def test_it_refuses(self):
        self.refused_each(InvalidNumber, cyclotomic, NO_INTEGERS + (0, -1, 2521, LONG))


class Parts(Case):

    def test_each_number(self):
        for number in range(1, 2521):
            if degree_of(number) <= 40:
                self.same(cyclotomic_parts(cyclotomic(number)), {number: 1})

    def test_products(self):
        for parts in ({}, {1: 40}, {2: 3, 6: 2}, {1: 2, 3: 1, 5: 4, 12: 1}, {30: 5}, {75: 1}, {1: 1, 2: 1, 4: 1, 8: 1},
                      {7: 3, 9: 1, 18: 2}, {3: 20}, {60: 2, 1: 8}):
            self.same(cyclotomic_parts(product_of_parts(parts)), dict(sorted(parts.items())))

    def test_others(self):
        for given in ((0,), (-1,), (2,), (1, -1), (2, 1), (0, 1), (1, 2), (1, 1, 0, 1), (1, -3, 1), (-2, 0, 1),
                      (1, 1, 2), LARGEST, (1,) + (0,) * 19 + (1,) + (0,) * 19 + (2,), (-1, -1),
                      (1, 0, 0, 0, 3) + (0,) * 35 + (1,), plain_product((1, 1, 1), (3, 1)), (1, 10 ** 59, 1)):
            self.assertIsNone(cyclotomic_parts(given), given)

    def test_the_told_polynomials(self):
        wanted = sorted((degree, number) for number, degree in DEGREES.items())
        self.same([(degree, number) for number, degree, value in polynomials.CYCLOTOMIC], wanted)
        for number, degree, value in polynomials.CYCLOTOMIC:
            self.same(value, sum(item * 2 ** index for index, item in enumerate(cyclotomic(number))))

    def test_drawn_products(self):
        drawing = random.Random(7)
        for degree in list(range(1, 41)) * 4:
            parts = drawn_parts(drawing, degree)
            self.same(cyclotomic_parts(product_of_parts(parts)), parts)

    def test_each_pair_of_numbers(self):
        for one in DEGREES:
            for other in DEGREES:
                if one < other and DEGREES[one] + DEGREES[other] <= 40:
                    given = polynomial_product(cyclotomic(one), cyclotomic(other))
                    self.same(cyclotomic_parts(given), {one: 1, other: 1})

    def test_neighbours_of_products(self):
        drawing = random.Random(8)
        for degree in list(range(1, 41)) * 4:
            given = list(product_of_parts(drawn_parts(drawing, degree)))
            given[drawing.randrange(degree)] += drawing.choice((-3, -2, -1, 1, 2, 2 ** 42, -10 ** 59))
            found = cyclotomic_parts(tuple(given))
            if found is not None:
                self.assertEqual(product_of_parts(found), tuple(given))
            if abs(given[0]) != 1:
                self.assertIsNone(found)

    def test_neighbours_that_agree_at_a_place(self):
        for power in list(range(1, 44)) + [64, 128]:
            for given in ((1, 1), (1, 1, 1), (1, 0, 0, 0, 1), cyclotomic(30), (1,) * 41):
                moved = plain_product((-2 ** power, 1), (1,) if len(given) < 3 else (0, 1))
                items = [item + more for item, more in zip(given, moved + (0,) * len(given))]
                if items[-1] != 0 and is_polynomial(tuple(items)):
                    self.assertIsNone(cyclotomic_parts(tuple(items)))

    def test_others_at_the_ends(self):
        for given in ((1, 0, -1), (-1, 0, -1), (1, 2 ** 41, 1), (1, -2 ** 40, 1), (1, 4, 6, 4, 2), (3, 4, 1),
                      (1, -4, 1), (1, 5, 1), (1, 0, 3, 0, 1), (1, 1, 1, 1, 1, 1, 1, 1, 2, 1)):
            self.assertIsNone(cyclotomic_parts(given), given)

    def test_many_calls_do_not_take_long(self):
        drawing = random.Random(9)
        drawn = [drawn_parts(drawing, drawing.randrange(1, 17)) for _ in range(2000)]
        given = [(parts, product_of_parts(parts)) for parts in drawn]
        begin = perf_counter()
        for parts, polynomial in given:
            self.assertEqual(cyclotomic_parts(polynomial), parts)
        for _ in range(300):
            cyclotomic_parts((1,) + (0,) * 39 + (1,))
        self.assertLess(perf_counter() - begin, 3)

    def test_a_factor_of_no_such_product_can_be_one(self):
        self.assertIsNone(cyclotomic_parts(polynomial_product((-1, 1), (-2, 1))))

    def test_a_factor_of_such_a_product_need_not_be_one(self):
        self.same(cyclotomic_parts((-1, 0, 1)), {1: 1, 2: 1})
        self.assertIsNone(cyclotomic_parts(polynomial_quotient((-1, 0, 1), (-1, -1))))

    def test_a_product_can_have_an_integer_0(self):
        self.same(polynomial_product((1, 1), (1, -1)), (1, 0, -1))

    def test_a_new_dict_each_time(self):
        cyclotomic_parts((-1, 1))[1] = 7
        self.same(cyclotomic_parts((-1, 1)), {1: 1})

    def test_it_refuses(self):
        self.refused_each(InvalidPolynomial, cyclotomic_parts, NO_POLYNOMIALS)
