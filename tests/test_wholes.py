"""[5.1] to [5.6], [0.12] and wholerises.stair.wholes."""

from fractions import Fraction
from itertools import combinations_with_replacement
from math import ceil

from wholerises.errors import InvalidNumber, InvalidOperation, InvalidRow
from wholerises.row.quotients import Quotient
from wholerises.stair import wholes
from wholerises.stair.wholes import (
    broken_primes, each_witness, exponents_at, fault, first_broken, is_whole, is_witness, witness)
from tests.support import (
    BROKEN, CHEBYSHEV, FIVE, GREAT, GREATEST, LATE, LONG, MIDDLE, NO_INTEGERS, NO_PRIMES, NO_ROWS, ROWS, SHORT,
    TURNED, Case, depth_of, exponent_in, fraction, is_plain_prime, numbers_of)

PRIMES = [number for number in range(2, 4000) if is_plain_prime(number)]
WHOLE = [row for row in ROWS if row in (MIDDLE, CHEBYSHEV, FIVE)]
SMALL = [Quotient(tops, bottoms)
         for tops in [given for size in (0, 1, 2) for given in combinations_with_replacement(range(1, 7), size)]
         for bottoms in [given for size in (0, 1, 2) for given in combinations_with_replacement(range(1, 7), size)]
         if sorted(tops) != sorted(bottoms)]


def is_plain_whole(row):
    """Whether the depth is nowhere below 0, looked for up to 70, where an excess below 0 has come through."""
    places = [Fraction(k, row.common) for k in range(row.common)]
    return all(depth_of(row, place + far) >= 0 for place in places for far in (0, 70))


def plain_fault(row):
    """The fault by the definition."""
    places = [Fraction(k, row.common) for k in range(row.common)]
    heights = [depth_of(row, place) for place in places]
    for at, height in enumerate(heights):
        if height < 0:
            end = at
            while end < len(places) and heights[end] == height:
                end += 1
            last = places[end] if end < len(places) else Fraction(1)
            return ("stair", (places[at].numerator, places[at].denominator), (last.numerator, last.denominator), height)
    return ("excess", row.excess) if row.excess < 0 else None


class Whole(Case):

    def test_constants(self):
        self.same((wholes.MAX_BROKEN, wholes.MAX_PRIMED), (100, 1000))

    def test_is_whole(self):
        for row in SMALL + list(ROWS):
            self.same(is_whole(row), is_plain_whole(row))

    def test_fault(self):
        for row in SMALL + list(ROWS):
            self.same(fault(row), plain_fault(row))

    def test_faults_of_all_kinds(self):
        self.same(fault(Quotient((), (1,))), ("excess", -1))
        self.same(fault(Quotient((), (2,))), ("stair", (1, 2), (1, 1), -1))
        self.same(fault(Quotient((6,), (4, 4))), ("stair", (1, 4), (1, 3), -1))

    def test_sums_and_multiples(self):
        for one in WHOLE:
            for other in WHOLE:
                if len(one) + len(other) < 9:
                    self.assertTrue(is_whole(one + other))
        for row in SMALL[::5]:
            self.same(is_whole(row * 7), is_whole(row))
            self.assertFalse(is_whole(row) and is_whole(row.exchanged()))

    def test_functions_of_one_row_refuse(self):
        for action in (is_whole, fault):
            self.refused_each(InvalidRow, action, NO_ROWS)


class Witnesses(Case):

    def test_witnesses(self):
        for row in [row for row in SMALL + list(ROWS) if not is_plain_whole(row)]:
            told = plain_fault(row)
            primes = [prime for prime in PRIMES + [999979, 999983] if prime > row.greatest ** 2]
            for prime in primes[:3] + primes[-1:]:
                found = witness(row, prime)
                wanted = ceil(fraction(told[1]) * prime) if told[0] == "stair" else prime
                self.same(found, wanted)
                self.same(row.exponent(prime, found), told[-1])
                self.assertIs(is_witness(row, prime, found), True)

    def test_witness_refuses(self):
        self.refused_each(InvalidRow, witness, NO_ROWS, 17)
        self.refused_each(InvalidNumber, lambda prime: witness(BROKEN, prime), NO_PRIMES)
        self.refused_each(InvalidOperation, lambda prime: witness(BROKEN, prime), (2, 3, 13))
        self.refused(InvalidOperation, witness, Quotient((2, 2), (3, 1)), 7)
        for row in (MIDDLE, CHEBYSHEV, FIVE):
            self.refused(InvalidOperation, witness, row, 999983)
        self.refused(InvalidNumber(4), witness, MIDDLE, 4)
        self.refused(InvalidRow, witness, None, 4)
        self.same(witness(BROKEN, 17), 12)

    def test_judged_witnesses(self):
        for row in (BROKEN, LATE, SHORT, TURNED, MIDDLE, Quotient((), (1,))):
            for prime in (2, 3, 5, 7, 11, 17, 37):
                for number in range(1, 60):
                    wanted = exponent_in(prime, numbers_of(row, number)) < 0
                    self.assertIs(is_witness(row, prime, number), wanted)

    def test_judged_long_integers(self):
        for prime in (17, 999983):
            for power in (1, 2, 90, 300):
                self.assertIs(is_witness(BROKEN, prime, prime ** power * witness(BROKEN, prime)), True)
                self.assertIs(is_witness(MIDDLE, prime, prime ** power * 12), False)
        self.assertIs(is_witness(TURNED, 2, 10 ** 5000), True)
        self.assertIs(is_witness(TURNED.exchanged(), 2, 10 ** 5000), False)

    def test_judged_others(self):
        for row in (BROKEN, TURNED, Quotient((), (1,))):
            for value in [value for value in NO_INTEGERS if type(value) is not int] + [0, -1, -12, -10 ** 5000, (2,)]:
                self.assertIs(is_witness(row, 3, value), False)
        self.assertIs(is_witness(Quotient((), (1,)), 3, 10 ** 60), True)

    def test_is_witness_refuses(self):
        self.refused_each(InvalidRow, is_witness, NO_ROWS, 3, 2)
        self.refused_each(InvalidNumber, lambda prime: is_witness(BROKEN, prime, 2), NO_PRIMES)
        self.refused(InvalidRow, is_witness, None, 4, None)
        self.refused(InvalidNumber(4), is_witness, BROKEN, 4, None)
        self.same([is_witness(MIDDLE, 2, 1), is_witness(BROKEN, 999983, 12)], [False, False])

    def test_each_witness(self):
        for row in (BROKEN, Quotient((), (1,)), SHORT, LATE):
            found = list(each_witness(row))
            self.assertEqual([prime for prime, number in found[:40]],
                             [prime for prime in PRIMES if prime > row.greatest ** 2][:40])
            self.same(found[-1], (999983, witness(row, 999983)))
            self.assertEqual(len(found), 78498 - len([prime for prime in PRIMES if prime <= row.greatest ** 2]))
            for prime, number in found[:200]:
                self.same(number, witness(row, prime))
        self.same(next(each_witness(BROKEN)), (17, 12))
        self.same(next(each_witness(TURNED)), (5, 3))
        self.same(next(each_witness(GREATEST.exchanged()))[0], 3607)

    def test_errors_of_each_witness(self):
        for value in NO_ROWS:
            made = each_witness(value)
            self.refused(InvalidRow, next, made)
        made = each_witness(MIDDLE)
        self.refused(InvalidOperation, next, made)


class Exponents(Case):

    def test_first_broken(self):
        for row in SMALL[::3] + [BROKEN, LATE, SHORT, TURNED]:
            broken = [number for number in range(1, 21) if numbers_of(row, number).denominator > 1]
            self.same(first_broken(row, 20), broken[0] if broken else None)
            for number in broken[:1]:
                self.same(first_broken(row, number), number)
                if number > 1:
                    self.assertIsNone(first_broken(row, number - 1))
        self.same([first_broken(LATE, 6), first_broken(LATE, 7), first_broken(TURNED, 1)], [None, 7, 1])
        self.same([first_broken(row, 100) for row in (MIDDLE, CHEBYSHEV, GREATEST)], [None, None, None])
        self.same(first_broken(GREATEST.exchanged(), 1), 1)

    def test_first_broken_refuses(self):
        self.refused_each(InvalidRow, first_broken, NO_ROWS, 5)
        self.refused_each(InvalidNumber, lambda number: first_broken(MIDDLE, number), NO_INTEGERS + (0, -1, 101, LONG))
        self.refused_each(InvalidNumber, lambda number: first_broken(BROKEN, number), (0, 101))
        self.refused(InvalidRow, first_broken, None, 0)

    def test_exponents_at(self):
        for row in ROWS:
            for number in range(min(7, 600 // row.greatest + 1)):
                value = numbers_of(row, number)
                primes = [prime for prime in PRIMES if prime <= row.greatest * number]
                wanted = {prime: exponent_in(prime, value) for prime in primes}
                wanted = {prime: times for prime, times in wanted.items() if times}
                self.same(exponents_at(row, number), wanted)
                self.same(broken_primes(row, number), tuple(prime for prime in wanted if wanted[prime] < 0))
        self.same([exponents_at(FIVE, 0), broken_primes(BROKEN, 0)], [{}, ()])

    def test_great_numbers(self):
        for row in (GREATEST, GREAT, BROKEN):
            found = exponents_at(row, 1000)
            self.assertEqual(list(found), sorted(found))
            for prime in (2, 3, 997, 1009, PRIMES[-1]):
                self.same(found.get(prime, 0), row.exponent(prime, 1000))
            self.same(broken_primes(row, 1000), tuple(prime for prime in found if found[prime] < 0))

    def test_they_refuse(self):
        for action in (exponents_at, broken_primes):
            self.refused_each(InvalidRow, action, NO_ROWS, 5)
            self.refused_each(InvalidNumber, lambda number: action(MIDDLE, number), NO_INTEGERS + (-1, 1001, LONG))
            self.refused(InvalidRow, action, None, -1)
        self.same(broken_primes(MIDDLE, 1000), ())


class NotTrue(Case):

    def test_integers_up_to_the_greatest(self):
        self.same([numbers_of(LATE, number).denominator for number in range(1, 7)], [1] * 6)
        self.same([is_whole(LATE), numbers_of(LATE, 7).denominator > 1], [False, True])

    def test_an_excess_of_0(self):
        self.same([BROKEN.excess, is_whole(BROKEN)], [0, False])

    def test_a_whole_sum(self):
        other = Quotient((3, 2), (1, 1, 1, 1, 1))
        self.same([str(BROKEN + other), is_whole(BROKEN + other), is_whole(BROKEN)],
                  ["quotient 4/1 1 1 1", True, False])
