"""[17.1] to [17.6] and wholerises.prime.windows."""

from fractions import Fraction
from math import lcm, prod

from wholerises.errors import InvalidNumber, InvalidOperation, InvalidRow, TooMany
from wholerises.family.families import rows_of_degree
from wholerises.prime import windows as module
from wholerises.prime.windows import (
    cofactor, exponent_by_windows, growth, is_window_prime, is_windowed, lcm_to, prime_intervals, prime_product,
    primes_to, window_primes, windows)
from wholerises.row.quotients import Quotient
from tests.support import (
    BROKEN, CHEBYSHEV, FIVE, LONG, MIDDLE, NO_INTEGERS, NO_PRIMES, NO_ROWS, OBJECTS, SHORT, TURNED, WRONG, Case,
    depth_of, drawn_rows, exponent_in, fraction, is_plain_prime, numbers_of, pair)

THREE = Quotient((3,), (2, 1))
WINDOWED = (MIDDLE, THREE, CHEBYSHEV, Quotient((4,), (2, 2)), Quotient((6, 1), (3, 2, 2)), Quotient((9, 4), (8, 3, 2)),
            Quotient((30, 5, 3, 2), (15, 10, 8, 6, 1)), MIDDLE * 30, THREE * 20)
NOT_WINDOWED = (FIVE, BROKEN, TURNED, SHORT, Quotient((2,), (1,)), Quotient((), (1,)), Quotient((1,), ()),
                Quotient((2, 2), (1,) * 4), Quotient((9, 5), (7, 3, 3, 1)), Quotient((4, 1), (5,)))


def plain_windows(row):
    """The windows, by the depth at all fractions at which it can change."""
    places = sorted({Fraction(top, bottom) for bottom in range(1, row.greatest + 1) for top in range(bottom)})
    found = []
    for place, end in zip(places, places[1:] + [Fraction(1)]):
        if depth_of(row, place) == 1:
            if found and found[-1][1] == place:
                found[-1] = (found[-1][0], end)
            else:
                found.append((place, end))
    return found


def is_in(told, part):
    """Whether a fraction lies in one of the windows."""
    return any(start <= part < end for start, end in told)


def plain_window_primes(row, number):
    """The window primes, by the definition."""
    told, most = plain_windows(row), row.greatest * number
    return tuple(prime for prime in range(2, most + 1) if prime * prime > most and is_plain_prime(prime)
                 and is_in(told, Fraction(number, prime) % 1))


class Primes(Case):

    def test_constants(self):
        self.same((module.MAX_REACH, module.MAX_SOUGHT), (600, 10000))

    def test_multiples_and_primes(self):
        for number in (0, 1, 2, 3, 4, 10, 11, 100, 599, 600):
            self.same(lcm_to(number), lcm(*range(1, number + 1)))
        for number in (0, 1, 2, 3, 4, 5, 100, 101, 9972, 9973, 10000):
            self.same(primes_to(number), tuple(one for one in range(number + 1) if is_plain_prime(one)))

    def test_they_refuse(self):
        self.refused_each(InvalidNumber, lcm_to, NO_INTEGERS + (-1, 601, LONG))
        self.refused_each(InvalidNumber, primes_to, NO_INTEGERS + (-1, 10001, LONG))


class Windows(Case):

    def test_windowed_rows(self):
        rows = tuple(drawn_rows(150)) + tuple(row for degree in range(1, 9) for row in rows_of_degree(degree))
        seen = {True: 0, False: 0}
        for row in rows + WINDOWED + NOT_WINDOWED:
            places = {Fraction(top, bottom) for bottom in range(1, row.greatest + 1) for top in range(bottom)}
            wanted = sum(row.tops) == sum(row.bottoms) and all(depth_of(row, place) in (0, 1) for place in places)
            self.assertIs(is_windowed(row), wanted)
            seen[wanted] += 1
            if not wanted:
                self.refused(InvalidOperation, windows, row)
        self.assertGreater(min(seen.values()), 100)

    def test_windows(self):
        for row in WINDOWED + rows_of_degree(4) + rows_of_degree(6):
            found = windows(row)
            self.same(found, tuple((pair(start), pair(end)) for start, end in plain_windows(row)))
            self.assertGreaterEqual(fraction(found[0][0]), Fraction(1, row.greatest))
            self.same(found[-1][1], (1, 1))

    def test_exponents(self):
        for row in WINDOWED:
            told = plain_windows(row)
            for prime in (2, 3, 5, 7, 11, 31, 101, 999983):
                for number in (0, 1, 2, 3, 10, 97, 1000, 123456, 10 ** 30):
                    wanted, power = 0, prime
                    while power <= row.greatest * number:
                        wanted += is_in(told, Fraction(number, power) % 1)
                        power *= prime
                    self.same(exponent_by_windows(row, prime, number), wanted)
                    if row.greatest * number <= 600:
                        self.same(wanted, exponent_in(prime, numbers_of(row, number)))

    def test_growth(self):
        for row in WINDOWED + (FIVE, BROKEN, TURNED, Quotient((2, 2), (1,) * 4)):
            wanted = Fraction(prod(a ** a for a in row.tops), prod(b ** b for b in row.bottoms))
            self.same(growth(row), pair(wanted))
        for row in WINDOWED:
            for number in range(min(5, 600 // row.greatest)):
                self.assertLess(numbers_of(row, number + 1) / numbers_of(row, number), fraction(growth(row)))

    def test_intervals(self):
        for row in WINDOWED:
            for number in (1, 10, 997, 10 ** 30):
                for most in (0, 1, 3, 20):
                    wanted = tuple((pair(Fraction(number) / (k + end)), pair(Fraction(number) / (k + start)))
                                   for k in range(most + 1) for start, end in plain_windows(row))
                    self.same(prime_intervals(row, number, most), wanted)

    def test_intervals_tell_window_primes(self):
        for row in (MIDDLE, THREE, CHEBYSHEV):
            for number in (7, 20, 33):
                told = prime_intervals(row, number, 20)
                most = row.greatest * number
                for prime in [prime for prime in range(2, most + 1) if is_plain_prime(prime) and prime ** 2 > most]:
                    if number < 21 * prime:
                        self.assertIs(any(fraction(low) < prime <= fraction(high) for low, high in told),
                                      is_window_prime(row, number, prime))

    def test_they_refuse(self):
        self.refused_each(InvalidRow, is_windowed, NO_ROWS)
        self.refused_each(InvalidRow, windows, NO_ROWS)
        self.refused_each(InvalidRow, growth, NO_ROWS)
        self.refused_each(InvalidOperation, growth, (SHORT, Quotient((2,), (1,)), Quotient((), (1,))))
        self.refused_each(InvalidRow, exponent_by_windows, NO_ROWS, 2, 1)
        self.refused_each(InvalidNumber, lambda prime: exponent_by_windows(MIDDLE, prime, 1), NO_PRIMES)
        numbers = NO_INTEGERS + (-1, 10 ** 30 + 1, LONG)
        self.refused_each(InvalidNumber, lambda number: exponent_by_windows(MIDDLE, 2, number), numbers)
        self.refused_each(InvalidOperation, exponent_by_windows, NOT_WINDOWED, 2, 1)
        self.refused(InvalidNumber(4), exponent_by_windows, FIVE, 4, -1)
        self.refused(InvalidNumber(-1), exponent_by_windows, FIVE, 2, -1)
        self.refused_each(InvalidRow, prime_intervals, NO_ROWS, 1, 0)
        self.refused_each(InvalidNumber, lambda number: prime_intervals(MIDDLE, number, 0), numbers + (0,))
        self.refused_each(InvalidNumber, lambda most: prime_intervals(MIDDLE, 1, most), NO_INTEGERS + (-1, 21, LONG))
        self.refused_each(InvalidOperation, prime_intervals, NOT_WINDOWED, 1, 0)
        self.refused(InvalidNumber(0), prime_intervals, FIVE, 0, -1)
        self.refused(InvalidNumber(-1), prime_intervals, FIVE, 1, -1)


class WindowPrimes(Case):

    def test_window_primes(self):
        for row in WINDOWED:
            for number in sorted({0, 1, 2, 3, 10, 30, 1000 // row.greatest}):
                wanted = plain_window_primes(row, number)
                self.same(window_primes(row, number), wanted)
                self.same(prime_product(row, number), prod(wanted))
                right = [value for value in range(-2, row.greatest * number + 50)
                         if is_window_prime(row, number, value)]
                self.same(right, list(wanted))
                if row.greatest * number <= 600:
                    value = numbers_of(row, number).numerator
                    self.same([value % prime == 0 and value % prime ** 2 != 0 for prime in wanted], [True] * len(wanted))
                    self.same(value % prod(wanted), 0)

    def test_judged_primes(self):
        self.judges(lambda value: is_window_prime(MIDDLE, 10, value), (11, 13, 17, 19),
                    WRONG + OBJECTS + (0, 1, 2, 3, 5, 7, 12, 23, -11, (11,), "11", 10 ** 6 + 3, 10 ** 400, (11, 1)))
        for number in (0, 1):
            self.judges(lambda value: is_window_prime(MIDDLE, number, value), (2,) if number else (), WRONG + (0, 1, 3))

    def test_the_greatest(self):
        self.same(len(window_primes(MIDDLE, 5000)), len(plain_window_primes(MIDDLE, 5000)))
        self.same(window_primes(CHEBYSHEV, 333)[-1], plain_window_primes(CHEBYSHEV, 333)[-1])

    def test_cofactors(self):
        for row in WINDOWED:
            for number in range(0, 1 + min(40, 600 // row.greatest)):
                multiple = lcm(*range(1, row.greatest * number + 1))
                self.same(multiple % numbers_of(row, number).numerator, 0)
                self.same(cofactor(row, number), multiple // numbers_of(row, number).numerator)

    def test_what_is_not_true(self):
        self.assertNotEqual(numbers_of(THREE, 10).numerator % 17, 0)
        self.same(cofactor(THREE, 10) % 17, 0)
        self.same(exponent_by_windows(MIDDLE, 2, 3), 2)

    def test_they_refuse(self):
        numbers = NO_INTEGERS + (-1, -LONG)
        for action in (window_primes, prime_product, cofactor, lambda row, number: is_window_prime(row, number, 2)):
            self.refused_each(InvalidRow, action, NO_ROWS, 1)
            self.refused_each(InvalidNumber, lambda number: action(MIDDLE, number), numbers)
            self.refused_each(InvalidOperation, action, NOT_WINDOWED, 1)
            self.refused_each(InvalidOperation, action, NOT_WINDOWED, LONG)
            self.refused(InvalidNumber(-1), action, FIVE, -1)
            self.refused(InvalidRow, action, None, None)
        for action in (window_primes, prime_product, lambda row, number: is_window_prime(row, number, None)):
            self.refused(TooMany(10000), action, MIDDLE, 5001)
            self.refused(TooMany(10000), action, CHEBYSHEV, 334)
            self.refused(TooMany(10000), action, MIDDLE, LONG)
        self.refused(TooMany(600), cofactor, MIDDLE, 301)
        self.refused(TooMany(600), cofactor, CHEBYSHEV, 21)
        self.refused(TooMany(600), cofactor, MIDDLE, LONG)
        self.assertIsInstance(cofactor(CHEBYSHEV, 20), int)
