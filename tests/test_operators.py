"""[0.16], [14.1] to [14.6] and wholerises.rest.operators."""

from fractions import Fraction
from itertools import combinations_with_replacement
from math import prod

from wholerises.circle.walks import does_alternate
from wholerises.errors import InvalidNumber, InvalidOperation, InvalidRising, TooMany
from wholerises.rest import operators as module
from wholerises.rest.operators import applied, ends_at, is_flat, is_solution, operator, p_curve, solutions
from wholerises.rise.risings import Rising
from tests.support import (
    HALF, LONG, NO_INTEGERS, NO_PRIMES, NO_RATIOS, NO_RISINGS, OBJECTS, PAIRED, RISINGS, TWICE, WIDEST, WRONG, Case,
    fraction, is_plain_prime, pair, plain_units, rising_number)

FRACTIONS = [pair(Fraction(k, n)) for n in (1, 2, 3, 4) for k in plain_units(n)]
SOME = [Rising((one,), (other,)) for one in FRACTIONS for other in FRACTIONS if one != other] + [
    Rising(tops, bottoms) for tops in combinations_with_replacement(FRACTIONS, 2)
    for bottoms in combinations_with_replacement(FRACTIONS, 2) if not set(tops) & set(bottoms)][::7] + [
        rising for rising in RISINGS if rising.common < 20]
PRIMES = [prime for prime in range(2, 100) if is_plain_prime(prime)]
THIRDS = Rising(((1, 3), (2, 3)), ((1, 2), (1, 1)))


def residue(value, prime):
    """A fraction modulo a prime."""
    return value.numerator * pow(value.denominator, -1, prime) % prime


def plain_ends(rising, prime):
    """The starts and the ends, by the definition."""
    return (tuple(sorted(residue(1 - fraction(place), prime) for place in rising.bottoms)),
            tuple(sorted(residue(-fraction(place), prime) for place in rising.tops)))


def plain_image(rising, prime, items):
    """What the operator makes of a polynomial modulo a prime."""
    found = []
    before = 0
    for n, item in enumerate(list(items) + [0]):
        one = prod([residue(n + fraction(place) - 1, prime) for place in rising.bottoms])
        other = prod([residue(n - 1 + fraction(place), prime) for place in rising.tops])
        found.append((item * one - before * other) % prime)
        before = item
    return found


def plain_solutions(rising, prime):
    """The solutions: from each start the rule goes on until an end, unless a start comes first."""
    starts, ends = plain_ends(rising, prime)
    found = []
    for start in sorted(set(starts)):
        n, items = start, [0] * start + [1]
        while n % prime not in ends and (n + 1) % prime not in starts:
            one = prod([residue(n + fraction(place), prime) for place in rising.bottoms])
            other = prod([residue(n + fraction(place), prime) for place in rising.tops])
            items.append(items[-1] * other * pow(one, -1, prime) % prime)
            n += 1
        if n % prime in ends:
            found.append(tuple(items))
    return tuple(found)


def added(one, other, factor=1):
    """A sum of two polynomials."""
    size = max(len(one), len(other))
    return [(one[k] if k < len(one) else 0) + factor * (other[k] if k < len(other) else 0) for k in range(size)]


def product_of(one, other):
    """A product of two polynomials."""
    made = [0] * (len(one) + len(other) - 1)
    for i, item in enumerate(one):
        for j, factor in enumerate(other):
            made[i + j] += item * factor
    return made


def plain_curve(rising, prime):
    """The p-curve, by the definition: matrices of polynomials over powers of 1 - z, modulo the prime."""
    size = len(rising)
    tops, bottoms = [1], [1]
    for place in rising.tops:
        tops = product_of(tops, [residue(fraction(place), prime), 1])
    for place in rising.bottoms:
        bottoms = product_of(bottoms, [residue(fraction(place) - 1, prime), 1])
    first = [[[1, -1] if j == i + 1 else [0] for j in range(size)] for i in range(size - 1)]
    first.append([[-bottoms[k], tops[k]] for k in range(size)])
    made = first
    for times in range(1, prime):
        behind = []
        for i in range(size):
            line = []
            for j in range(size):
                item = made[i][j]
                slope = [k * value for k, value in enumerate(item)]
                total = added(product_of(slope, [1, -1]), product_of(item, [0, times]))
                for k in range(size):
                    total = added(total, product_of(made[i][k], first[k][j]))
                line.append([value % prime for value in total])
            behind.append(line)
        made = behind
    less = [1]
    for _ in range(prime - 1):
        less = product_of(less, [1, -1])
    return tuple(tuple(shortened([value % prime for value in added(made[i][j], product_of(first[i][j], less), -1)])
                       for j in range(size)) for i in range(size))


def shortened(items):
    """A polynomial without its last integers that are 0."""
    while len(items) > 1 and items[-1] == 0:
        items = items[:-1]
    return tuple(items)


def good_primes(rising, many):
    """The first good primes."""
    return [prime for prime in PRIMES if prime > rising.common][:many]


class Operators(Case):

    def test_constants(self):
        self.same((module.MAX_CURVED, module.MAX_SOLVED, module.MAX_ORDER), (31, 97, 3))

    def test_operators(self):
        for rising in SOME + list(RISINGS):
            wanted = []
            for side, less in ((rising.bottoms, 1), (rising.tops, 0)):
                made = [Fraction(1)]
                for place in side:
                    made = product_of(made, [fraction(place) - less, Fraction(1)])
                wanted.append(tuple(pair(item) for item in made))
            self.same(operator(rising), tuple(wanted))

    def test_applied(self):
        given = ((1, 1), (0, 1), (-3, 7), (LONG, 2), (1, LONG), (5, 3))
        for rising in SOME + list(RISINGS):
            before = Fraction(0)
            wanted = []
            for n, item in enumerate(fraction(one) for one in given):
                wanted.append(item * prod([n + fraction(place) - 1 for place in rising.bottoms])
                              - before * prod([n - 1 + fraction(place) for place in rising.tops]))
                before = item
            self.same(applied(rising, given), tuple(pair(item) for item in wanted))
            self.same(applied(rising, given[:1]), (pair(wanted[0]),))
        self.same(len(applied(HALF, ((1, 2),) * 100)), 100)

    def test_the_series_of_the_row(self):
        for rising in SOME + list(RISINGS):
            many = 8 if rising is not WIDEST else 4
            numbers = tuple(pair(rising_number(rising, number)) for number in range(many))
            found = applied(rising, numbers)
            self.same(found[1:], ((0, 1),) * (many - 1))
            self.assertIs(found[0] == (0, 1), (1, 1) in rising.bottoms)

    def test_they_refuse(self):
        self.refused_each(InvalidRising, operator, NO_RISINGS)
        self.refused_each(InvalidRising, applied, NO_RISINGS, ((1, 2),))
        self.refused_each(InvalidOperation, lambda coefficients: applied(HALF, coefficients), WRONG + OBJECTS + (
            1, (1, 2), [(1, 2)], ((1, 2),) * 101) + tuple((value,) for value in NO_RATIOS) + tuple(
                ((1, 2), value) for value in NO_RATIOS))
        self.refused(InvalidRising, applied, None, None)


class Ends(Case):

    def test_ends(self):
        for rising in SOME:
            for prime in good_primes(rising, 6) + [999983]:
                self.same(ends_at(rising, prime), plain_ends(rising, prime))
        self.same(ends_at(WIDEST, 853), plain_ends(WIDEST, 853))

    def test_flat_rows(self):
        both = []
        for rising in SOME + [WIDEST]:
            for prime in good_primes(rising, 6) + [857, 999983]:
                starts, ends = plain_ends(rising, prime)
                wanted = len(set(starts)) == len(starts)
                for at, start in enumerate(starts):
                    size = (starts[(at + 1) % len(starts)] - start - 1) % prime + 1
                    wanted = wanted and any((end - start) % prime < size for end in ends)
                self.assertIs(is_flat(rising, prime), wanted)
                self.assertIs(wanted, does_alternate(rising, rising.undoing(prime)))
                both.append(wanted)
        self.assertEqual(set(both), {True, False})

    def test_rows_without_1_can_be_flat(self):
        self.assertIs(is_flat(Rising(((1, 3),), ((1, 2),)), 7), True)
        self.assertIs(is_flat(Rising(((1, 1),), ((1, 2),)), 7), True)
        self.assertEqual({is_flat(Rising(((1, 5), (4, 5)), ((2, 5), (1, 1))), prime) for prime in (7, 11, 13, 19)},
                         {True, False})

    def test_they_refuse(self):
        for action in (ends_at, is_flat, solutions, p_curve, lambda rising, prime: is_solution(rising, prime, (0,))):
            self.refused_each(InvalidRising, action, NO_RISINGS, 7)
            self.refused_each(InvalidNumber, lambda prime: action(HALF, prime), NO_PRIMES)
            for rising in RISINGS:
                for prime in [prime for prime in PRIMES if prime <= rising.common]:
                    self.refused(InvalidOperation, action, rising, prime)
            self.refused(InvalidRising, action, None, 4)
            self.refused(InvalidOperation, action, WIDEST, 839)
        self.same(ends_at(HALF, 3), ((0,), (1,)))


class Solutions(Case):

    def test_solutions(self):
        for rising in SOME:
            for prime in good_primes(rising, 5) + [97]:
                found = solutions(rising, prime)
                self.same(found, plain_solutions(rising, prime))
                self.assertIs(len(found) == len(rising), is_flat(rising, prime))
                for items in found:
                    self.assertLessEqual(len(items), 2 * prime - 1)
                    self.assertFalse(any(plain_image(rising, prime, items)))
                    self.assertIs(is_solution(rising, prime, items), True)

    def test_solutions_beyond_the_prime(self):
        lengths = [len(items) - prime for rising in SOME for prime in good_primes(rising, 4)
                   for items in solutions(rising, prime)]
        self.assertGreater(max(lengths), 0)

    def test_great_primes_are_refused(self):
        self.refused(TooMany(97), solutions, HALF, 101)
        self.refused(TooMany(97), solutions, HALF, 999983)
        self.refused(TooMany(97), solutions, WIDEST, 853)
        self.refused(InvalidOperation, solutions, WIDEST, 101)

    def test_judged_solutions(self):
        for rising in (HALF, THIRDS, TWICE, PAIRED, Rising(((1, 1),), ((1, 2),)), Rising(((1, 3),), ((1, 2),))):
            prime = good_primes(rising, 1)[0] if rising is not THIRDS else 7
            self.assertIs(is_solution(rising, prime, (0,)), True)
            found = solutions(rising, prime)
            for items in found:
                for factor in range(1, prime):
                    value = tuple(item * factor % prime for item in items)
                    self.assertIs(is_solution(rising, prime, value), True)
                    self.assertIs(is_solution(rising, prime, (0,) * prime + value), True)
                    self.assertIs(is_solution(rising, prime, (0,) * (prime - 1) + value),
                                  not any(plain_image(rising, prime, (0,) * (prime - 1) + value)))
                    for at in range(len(value)):
                        other = value[:at] + ((value[at] + 1) % prime,) + value[at + 1:]
                        if other[-1] != 0:
                            self.assertIs(is_solution(rising, prime, other),
                                          not any(plain_image(rising, prime, other)))
                    self.assertIs(is_solution(rising, prime, value + (0,)), False)
                    self.assertIs(is_solution(rising, prime, list(value)), False)
                    self.assertIs(is_solution(rising, prime, value[:-1] + (value[-1] + prime,)), False)
                    self.assertIs(is_solution(rising, prime, value[:-1] + (value[-1] - prime,)), False)

    def test_all_short_polynomials(self):
        for rising in (HALF, Rising(((1, 1),), ((1, 2),)), Rising(((1, 2), (1, 2)), ((1, 1), (1, 1)))):
            prime = 3
            for number in range(3 ** 7):
                items = []
                while number:
                    items.append(number % 3)
                    number //= 3
                value = tuple(items) or (0,)
                self.assertIs(is_solution(rising, prime, value), not any(plain_image(rising, prime, value)))

    def test_long_polynomials(self):
        found = solutions(HALF, 11)[0]
        self.assertIs(is_solution(HALF, 11, (0,) * 990 + found), True)
        self.same(len((0,) * 990 + found), 996)
        found = solutions(HALF, 7)[0]
        self.same(len(found), 4)
        self.assertIs(is_solution(HALF, 7, (0,) * 994 + found), True)
        self.same([len(plain) for plain in plain_solutions(HALF, 2003)], [1002])
        self.assertIs(is_solution(HALF, 2003, plain_solutions(HALF, 2003)[0]), False)
        self.same([len(plain) for plain in plain_solutions(HALF, 1999)], [1000])
        self.assertIs(is_solution(HALF, 1999, plain_solutions(HALF, 1999)[0]), True)
        self.assertIs(is_solution(HALF, 3, (0,) * 999 + (1, 2)), True)
        found = (0,) * 1000 + (1,)
        prime = 999983
        self.assertIs(is_solution(HALF, prime, found), False)
        high = Rising(((1, 11),), ((2, 11),))
        for prime in (13, 19):
            for items in solutions(high, prime):
                for times in range(70):
                    value = (0,) * (prime * times) + items
                    self.assertIs(is_solution(high, prime, value), len(value) <= 1001)

    def test_others(self):
        for value in NO_RATIOS + ((), (0, 0), (1, 0), (3,), (-1,), (1, 3), (True,), (False,), (1, True), [0], "0", None,
                                  (10 ** 400,), ((1,),), (0,) * 1002):
            if value != (1, 2):
                self.assertIs(is_solution(HALF, 3, value), False, value)
        self.assertIs(is_solution(HALF, 3, (1, 2)), True)
        self.refused_each(InvalidRising, is_solution, NO_RISINGS, 7, (0,))
        self.same([is_solution(HALF, 999983, (0,)), is_solution(HALF, 999983, (1, 2))], [True, False])


class Curves(Case):

    def test_curves(self):
        for rising in [one for one in SOME if len(one) < 4]:
            for prime in good_primes(rising, 3):
                found = p_curve(rising, prime)
                self.same(found, plain_curve(rising, prime))
                self.assertIs(not any(any(items) for line in found for items in line), is_flat(rising, prime))
        for rising in (HALF, THIRDS, TWICE, Rising(((1, 2),) * 3, ((1, 1),) * 3)):
            self.same(p_curve(rising, 31), plain_curve(rising, 31))

    def test_their_powers_are_0(self):
        for rising in [one for one in SOME if 1 < len(one) < 4][::3]:
            prime = good_primes(rising, 1)[0]
            curve = p_curve(rising, prime)
            size = len(rising)
            made = curve
            for _ in range(size - 1):
                behind = []
                for i in range(size):
                    line = []
                    for j in range(size):
                        total = [0]
                        for k in range(size):
                            total = added(total, product_of(made[i][k], curve[k][j]))
                        line.append([item % prime for item in total])
                    behind.append(line)
                made = behind
            self.assertFalse(any(any(items) for line in made for items in line))

    def test_a_curve_that_is_not_0_lets_solutions(self):
        self.assertTrue(any(any(items) for line in p_curve(TWICE, 5) for items in line))
        self.same(solutions(TWICE, 5), ((1, 4, 1),))

    def test_bounds(self):
        self.refused(TooMany(31), p_curve, HALF, 37)
        four = Rising(((1, 2),) * 4, ((1, 1),) * 4)
        self.refused(TooMany(3), p_curve, four, 31)
        self.refused(TooMany(31), p_curve, four, 37)
        self.refused(InvalidOperation, p_curve, four, 2)
        self.refused(TooMany(31), p_curve, WIDEST, 853)
        self.refused_each(InvalidNumber, lambda prime: p_curve(four, prime), NO_INTEGERS)
