"""[15.1] to [15.5] and wholerises.rest.lucas."""

from fractions import Fraction
from itertools import islice
from math import comb

from wholerises.errors import InvalidNumber, InvalidOperation, InvalidRow, Refused, TooMany
from wholerises.family.families import rows_of_degree
from wholerises.rest import lucas as module
from wholerises.rest.lucas import (
    bend, by_digits, cube_exponent, digit_fault, each_rest, far_fault, goes_by_digits, is_digit_fault, rest)
from wholerises.row.quotients import Quotient
from tests.support import (
    BROKEN, CHEBYSHEV, FIVE, GREAT, LATE, LONG, MIDDLE, NO_INTEGERS, NO_PRIMES, NO_ROWS, OBJECTS, SHORT, TURNED,
    WRONG, Case, depth_of, exponent_in, is_plain_prime, numbers_of, pair)

THREE, DOUBLE = Quotient((3,), (2, 1)), Quotient((4,), (2, 2))
BALANCED = (MIDDLE, CHEBYSHEV, FIVE, THREE, DOUBLE, Quotient((6, 1), (3, 2, 2)), Quotient((9, 5), (7, 3, 3, 1)),
            Quotient((4,), (1, 1, 1, 1)), Quotient((12, 1), (6, 4, 3)), Quotient((6,), (2, 2, 2)), MIDDLE * 30,
            Quotient((6,), (4, 1, 1)), Quotient((2, 2, 2), (1,) * 6), Quotient((30, 5, 3, 2), (15, 10, 8, 6, 1)),
            Quotient((10, 6), (9, 5, 2)), Quotient((10,), (5, 3, 2)), Quotient((12, 12), (6, 6, 6, 6)))
UNBALANCED = (Quotient((2,), (1,)), Quotient((3,), (1, 1)), Quotient((1,), ()), Quotient((4, 2), (1, 1)),
              Quotient((60, 60), (45, 40)), Quotient((60,) * 8, (1,) * 8))
BROKEN_ROWS = (BROKEN, TURNED, SHORT, LATE, Quotient((), (1,)), Quotient((1,), (2,)), GREAT)
PRIMES = [number for number in range(2, 10000) if is_plain_prime(number)]


def plain_rest(row, number, prime):
    """The rest at a number, by the factorials without the prime."""
    exponent, top, bottom = 0, 1, 1
    for member, count in row:
        left, unit = member * number, 1
        while left:
            for factor in range(1, left % prime + 1):
                unit = unit * factor % prime
            left //= prime
            unit = unit * (-1) ** left % prime
            exponent += count * left
        for _ in range(abs(count)):
            top, bottom = (top * unit % prime, bottom) if count > 0 else (top, bottom * unit % prime)
    return 0 if exponent else top * pow(bottom, -1, prime) % prime


def plain_digits(number, prime):
    """The digits, the last one first."""
    digits = []
    while number:
        number, digit = divmod(number, prime)
        digits.append(digit)
    return digits


def plain_fault(row, prime, number, digit):
    """Whether a pair is a digit fault, by the definition."""
    product = plain_rest(row, number, prime) * plain_rest(row, digit, prime) % prime
    return plain_rest(row, number * prime + digit, prime) != product


def late_places(row):
    """All fractions from 1 / M on and below 1 at which the depth can change, ascending."""
    most = row.greatest
    found = {Fraction(top, bottom) for bottom in range(1, most + 1) for top in range(1, bottom)}
    return sorted(place for place in found if place >= Fraction(1, most))


class Rests(Case):

    def test_constants(self):
        self.same((module.MAX_PRIME, module.MAX_INDEX, module.MAX_FACTORIAL), (10000, 10 ** 30, 600))

    def test_rests_of_small_numbers(self):
        for row in BALANCED + UNBALANCED:
            for number in range(0, 1 + min(12, 600 // row.greatest)):
                value = numbers_of(row, number).numerator
                for prime in (2, 3, 5, 7, 11, 13, 31, 61, 67, 127, 131, 193, 601, 9973):
                    self.same(rest(row, number, prime), value % prime)
                    self.same(plain_rest(row, number, prime), value % prime)

    def test_rests_of_great_numbers(self):
        for row in BALANCED + UNBALANCED:
            for number in (10 ** 30, 10 ** 30 - 1, 7 ** 35 + 2, 2 ** 99, 123456789, 9973 ** 7 + 9973 + 1):
                for prime in (2, 3, 7, 59, 61, 127, 9973):
                    self.same(rest(row, number, prime), plain_rest(row, number, prime))

    def test_all_primes(self):
        for prime in PRIMES[::9]:
            self.same(rest(THREE, 100, prime), numbers_of(THREE, 100).numerator % prime)
            self.same(rest(CHEBYSHEV, 3, prime), numbers_of(CHEBYSHEV, 3).numerator % prime)

    def test_by_digits(self):
        for row in BALANCED + UNBALANCED:
            for number in (0, 1, 2, 5, 49, 50, 1000, 10 ** 30, 7 ** 35 + 2, 10 ** 30 - 1):
                for prime in (2, 3, 7, 61, 9973):
                    wanted = 1
                    for digit in plain_digits(number, prime):
                        wanted = wanted * plain_rest(row, digit, prime) % prime
                    self.same(by_digits(row, number, prime), wanted)
                    if row.is_balanced and goes_by_digits(row):
                        self.same(rest(row, number, prime), wanted)

    def test_each_rest(self):
        for row in BALANCED + UNBALANCED:
            for prime in (2, 3, 61, 67, 9973):
                wanted = [plain_rest(row, number, prime) for number in range(70)]
                self.same(list(islice(each_rest(row, prime), 70)), wanted)
        self.same(list(islice(each_rest(MIDDLE, 101), 3000))[2900:],
                  [rest(MIDDLE, number, 101) for number in range(2900, 3000)])

    def test_they_refuse(self):
        numbers = NO_INTEGERS + (-1, 10 ** 30 + 1, LONG)
        primes = NO_PRIMES + (10007, 999983)
        for action in (rest, by_digits):
            self.refused_each(InvalidRow, action, NO_ROWS, 1, 2)
            self.refused_each(InvalidNumber, lambda number: action(MIDDLE, number, 2), numbers)
            self.refused_each(InvalidNumber, lambda prime: action(MIDDLE, 1, prime), primes)
            self.refused_each(InvalidOperation, action, BROKEN_ROWS, 1, 2)
            self.refused(InvalidRow, action, None, None, None)
            self.refused(InvalidNumber(-1), action, BROKEN, -1, 4)
            self.refused(InvalidNumber(4), action, BROKEN, 1, 4)
            self.same(action(MIDDLE, 10 ** 30, 9973), plain_rest(MIDDLE, 10 ** 30, 9973))
        for value in NO_ROWS:
            self.refused(InvalidRow, next, each_rest(value, 4))
        for prime in primes:
            self.refused(InvalidNumber(prime), next, each_rest(BROKEN, prime))
        for row in BROKEN_ROWS:
            self.refused(InvalidOperation, next, each_rest(row, 2))


class Faults(Case):

    def test_rows_that_go_by_digits(self):
        for row in BALANCED + rows_of_degree(4) + rows_of_degree(6):
            wanted = all(depth_of(row, place) >= 1 for place in late_places(row))
            self.assertIs(goes_by_digits(row), wanted)
            self.assertIs(bend(row) is None, wanted)
        self.same([goes_by_digits(row) for row in BALANCED].count(True), 4)

    def test_digit_faults(self):
        for row in BALANCED + rows_of_degree(4):
            for prime in (2, 3, 5, 7, 11, 13, 29, 31, 37):
                most = 2 if prime > 7 else 20
                faults = [(number, digit) for number in range(1, most + 1) for digit in range(prime)
                          if plain_fault(row, prime, number, digit)]
                self.same(digit_fault(row, prime, most=most), faults[0] if faults else None)
                if most == 2:
                    self.same(digit_fault(row, prime), faults[0] if faults else None)
                first = [told for told in faults if told[0] == 1]
                self.same(digit_fault(row, prime, most=1), first[0] if first else None)
                for number in range(0, most + 1):
                    for digit in range(prime):
                        self.assertIs(is_digit_fault(row, prime, (number, digit)), (number, digit) in faults)

    def test_judged_faults_of_great_numbers(self):
        for row in BALANCED:
            for prime in (2, 5, 31, 97, 9973):
                for number in (10 ** 30, 7 ** 30 + 3, 9973 ** 3 + 1):
                    for digit in sorted({0, 1, prime // 5, prime // 3, prime // 2, prime - 1}):
                        self.assertIs(is_digit_fault(row, prime, (number, digit)),
                                      plain_fault(row, prime, number, digit))

    def test_judged_faults(self):
        right = ((1, 6), (1, 7), (2, 6), (3, 6))
        self.judges(lambda value: is_digit_fault(THREE, 11, value), right, WRONG + OBJECTS + (
            1, (1,), (1, 6, 1), [1, 6], (1, 8), (1, 0), (1, -5), (1, 11), (1, 17), (0, 6), (-1, 6), (True, 6), (1, True),
            (1, None), ("1", 6), (10 ** 30 + 1, 6), (10 ** 400, 6), (1, 10 ** 400), ((1, 6), 6)))
        self.assertIs(is_digit_fault(THREE, 11, (11 ** 28 + 1, 6)), True)

    def test_no_faults(self):
        for row in (MIDDLE, FIVE, Quotient((4,), (1,) * 4)):
            self.assertIsNone(digit_fault(row, 97, most=20))

    def test_faults_refuse(self):
        primes = NO_PRIMES + (101, 9973, 10007)
        self.refused_each(InvalidRow, digit_fault, NO_ROWS, 2)
        self.refused_each(InvalidNumber, lambda prime: digit_fault(MIDDLE, prime), primes)
        self.refused_each(InvalidNumber, lambda most: digit_fault(MIDDLE, 2, most=most), NO_INTEGERS + (0, -1, 21, LONG))
        self.refused_each(InvalidOperation, digit_fault, BROKEN_ROWS + UNBALANCED, 2)
        self.refused(InvalidNumber(101), lambda: digit_fault(BROKEN, 101, most=0))
        self.refused(InvalidNumber(0), lambda: digit_fault(BROKEN, 97, most=0))
        self.refused(InvalidRow, lambda: digit_fault(None, 101, most=0))
        self.refused_each(InvalidRow, is_digit_fault, NO_ROWS, 2, (1, 1))
        self.refused_each(InvalidNumber, lambda prime: is_digit_fault(MIDDLE, prime, None), NO_PRIMES + (10007,))
        self.refused_each(InvalidOperation, is_digit_fault, BROKEN_ROWS + UNBALANCED, 2, (1, 1))
        self.refused(InvalidNumber(4), is_digit_fault, BROKEN, 4, None)
        for action in (goes_by_digits, bend):
            self.refused_each(InvalidRow, action, NO_ROWS)
            self.refused_each(InvalidOperation, action, BROKEN_ROWS + UNBALANCED)

    def test_u_of_p_and_r_alone_does_not_tell(self):
        row, prime = CHEBYSHEV, 11
        self.assertFalse(any(plain_fault(row, prime, 1, digit) for digit in range(prime)))
        self.same(digit_fault(row, prime), (2, 4))


class Bends(Case):

    def test_bends(self):
        for row in BALANCED + rows_of_degree(5) + rows_of_degree(7):
            places = [place for place in late_places(row) if depth_of(row, place) == 0]
            if not places:
                self.assertIsNone(bend(row))
                continue
            ratio = Fraction(1)
            for member, count in row:
                ratio *= Fraction(comb(member + member * places[0] // 1, member)) ** count
            self.same(bend(row), (pair(places[0]), pair(ratio)))
            self.assertGreater(ratio, 1)

    def test_far_faults(self):
        for row in BALANCED:
            told = bend(row)
            for prime in [prime for prime in PRIMES if prime > row.greatest ** 2][:4] + [9941, 9949, 9967, 9973]:
                if told is None:
                    self.refused(InvalidOperation, far_fault, row, prime)
                    continue
                (top, bottom), ratio = told
                if (ratio[0] - ratio[1]) % prime == 0:
                    self.refused(Refused(("prime", prime)), far_fault, row, prime)
                    continue
                wanted = (1, -(-top * prime // bottom))
                self.same(far_fault(row, prime), wanted)
                self.assertIs(is_digit_fault(row, prime, wanted), True)
                self.assertTrue(plain_fault(row, prime, *wanted))

    def test_a_prime_that_divides(self):
        refused = 0
        for row in BALANCED + rows_of_degree(3) + rows_of_degree(4) + rows_of_degree(8):
            told = bend(row)
            if told is not None:
                less = told[1][0] - told[1][1]
                for prime in PRIMES:
                    if less % prime == 0 and prime > row.greatest ** 2:
                        refused += 1
                        self.refused(Refused(("prime", prime)), far_fault, row, prime)
        self.assertGreater(refused, 0)

    def test_they_refuse(self):
        self.refused_each(InvalidRow, far_fault, NO_ROWS, 101)
        self.refused_each(InvalidNumber, lambda prime: far_fault(THREE, prime), NO_PRIMES + (10007,))
        self.refused_each(InvalidOperation, far_fault, BROKEN_ROWS + UNBALANCED + (MIDDLE, FIVE), 9973)
        for prime in (2, 3, 5, 7):
            self.refused(InvalidOperation, far_fault, THREE, prime)
        self.refused(InvalidOperation, far_fault, CHEBYSHEV, 887)
        self.same(far_fault(CHEBYSHEV, 907), (1, 182))
        self.refused(InvalidNumber(9), far_fault, BROKEN, 9)


class Cubes(Case):

    def test_cube_exponents(self):
        for row in BALANCED:
            for prime in (2, 3, 5, 7, 11, 13, 97, 293):
                for number in range(1, 1 + min(30, 600 // (row.greatest * prime))):
                    less = numbers_of(row, number * prime) - numbers_of(row, number)
                    found = cube_exponent(row, number, prime)
                    self.same(found, exponent_in(prime, less))
                    if prime >= 5:
                        exponent = exponent_in(prime, numbers_of(row, number))
                        self.assertGreaterEqual(found, 3 + 3 * exponent_in(prime, Fraction(number)) + exponent)
        self.same(cube_exponent(MIDDLE, 1, 3), 2)

    def test_they_refuse(self):
        self.refused_each(InvalidRow, cube_exponent, NO_ROWS, 1, 2)
        self.refused_each(InvalidNumber, lambda number: cube_exponent(MIDDLE, number, 2),
                          NO_INTEGERS + (0, -1, 10 ** 30 + 1, LONG))
        self.refused_each(InvalidNumber, lambda prime: cube_exponent(MIDDLE, 1, prime), NO_PRIMES + (10007,))
        self.refused_each(InvalidOperation, cube_exponent, BROKEN_ROWS + UNBALANCED, 1, 2)
        self.refused(InvalidOperation, cube_exponent, BROKEN, 10 ** 30, 9973)
        self.refused(TooMany(600), cube_exponent, MIDDLE, 10 ** 30, 2)
        self.refused(TooMany(600), cube_exponent, MIDDLE, 151, 2)
        self.refused(TooMany(600), cube_exponent, CHEBYSHEV, 1, 23)
        self.refused(InvalidNumber(0), cube_exponent, BROKEN, 0, 4)
        self.refused(InvalidNumber(4), cube_exponent, BROKEN, 10 ** 30, 4)
        self.assertIsInstance(cube_exponent(MIDDLE, 150, 2), int)
        self.assertIsInstance(cube_exponent(CHEBYSHEV, 1, 19), int)
