"""[0.11], [8.1] to [8.5] and wholerises.rise.risings."""

from fractions import Fraction
from itertools import combinations_with_replacement
from math import lcm, prod

from wholerises.circle.products import degree_of
from wholerises.errors import InvalidNumber, InvalidOperation, InvalidRatio, InvalidRising, InvalidRow
from wholerises.rise import risings as module
from wholerises.rise.risings import Rising, quotient_of, rising_of, rising_product
from wholerises.row.quotients import Quotient
from tests.support import (
    BROKEN, CHEBYSHEV, FIVE, HALF, HALF_WAY, LONG, MIDDLE, NO_INTEGERS, NO_PRIMES, NO_RATIOS, NO_RISINGS, NO_ROWS,
    OBJECTS, PAIRED, RISINGS, THIRD, TURNED, TWICE, WIDEST, WRONG, Case, balanced_rows, drawn_rows, exponent_in,
    fraction, images_of, pair, plain_units, rising_number)

HALVES = ((1, 2),)
ONES = ((1, 1),)
NO_PLACES = ((0, 1), (3, 2), (-1, 2), (2, 4), (1, 0), (1, -2), (1,), (1, 2, 3), 1, None, True, "1/2", [1, 2], (True, 2),
             (1, True), (1, 10 ** 60), (10 ** 60, 10 ** 60 + 1), ((1, 2), 1))
NO_SIDES = WRONG + OBJECTS + (1, (1, 2), ((1, 2),) * 7, [(1, 2)], {(1, 2): 1}) + tuple(
    (place,) for place in NO_PLACES) + tuple(((1, 2), place) for place in NO_PLACES)
TOLD = [row for degree in (1, 2, 3, 4, 5, 6) for row in balanced_rows(degree)[::1 if degree < 4 else 31]]


def plain_steps(rising, prime):
    """The row's steps by a prime, by the definition."""
    return tuple(tuple(sorted([one_step(place, prime) for place in side], key=fraction))
                 for side in (rising.tops, rising.bottoms))


def one_step(place, prime):
    """The place f' above 0 and up to 1 for which p f' - f is an integer from 0 to p - 1."""
    for number in range(prime):
        found = (fraction(place) + number) / prime
        if found.denominator == place[1]:
            return pair(found)
    return None


def exponent_by_powers(prime, place, number):
    """The exponent of a prime in a rising product, by [8.1] and [8.2]."""
    top, bottom = place
    if bottom % prime == 0:
        return -number * exponent_in(prime, Fraction(bottom))
    total = 0
    power = prime
    while power <= top + bottom * number:
        first = -top * pow(bottom, -1, power) % power
        total += number // power + (first < number % power)
        power *= prime
    return total


class Products(Case):

    def test_constants(self):
        self.same((module.MOST_PLACES, module.MOST_COMMON, module.MOST_VALUE), (6, 840, 100))

    def test_products(self):
        for ratio in ((1, 2), (0, 1), (1, 1), (-3, 1), (-7, 2), (LONG, 2), (1, LONG), (5, 3)):
            for number in (0, 1, 2, 3, 7, 100):
                wanted = prod([fraction(ratio) + index for index in range(number)], start=Fraction(1))
                self.same(rising_product(ratio, number), pair(wanted))

    def test_products_refuse(self):
        self.refused_each(InvalidRatio, rising_product, NO_RATIOS, 1)
        self.refused_each(InvalidNumber, lambda number: rising_product((1, 2), number), NO_INTEGERS + (-1, 101, LONG))
        self.refused(InvalidRatio, rising_product, None, None)


class Rows(Case):

    def test_places_are_sorted_and_taken_out(self):
        made = Rising(((2, 3), (1, 3), (1, 2), (1, 2), (1, 1)), ((1, 1), (1, 2), (3, 4), (1, 4), (1, 4)))
        self.same((made.tops, made.bottoms, made.common), (((1, 3), (1, 2), (2, 3)), ((1, 4), (1, 4), (3, 4)), 12))
        self.assertTrue(made == Rising(((1, 2), (2, 3), (1, 3)), ((1, 4), (3, 4), (1, 4))))
        for rising in RISINGS:
            for tops, bottoms in ((rising.tops, rising.bottoms), (rising.tops[::-1], rising.bottoms[::-1])):
                other = Rising(tops, bottoms)
                self.assertTrue(other == rising)
                self.same((other.tops, other.bottoms), (tuple(sorted(tops, key=fraction)),
                                                        tuple(sorted(bottoms, key=fraction))))
                self.same(other.common, lcm(*[bottom for top, bottom in tops + bottoms]))

    def test_common_bottoms(self):
        self.same(Rising(((1, 840),), ONES).common, 840)
        self.same(WIDEST.common, 840)
        self.refused(InvalidRising, Rising, ((1, 841),), ONES)
        self.refused(InvalidRising, Rising, ((1, 29), (1, 30)), (ONES * 2))
        self.refused(InvalidRising, Rising, ((1, LONG),), ONES)
        self.same(Rising(((1, LONG), (1, 2)), ((1, LONG), (1, 1))).common, 2)

    def test_wrong_rows(self):
        for value in NO_SIDES:
            self.refused(InvalidRising, Rising, value, ONES)
            self.refused(InvalidRising, Rising, HALVES, value)
            self.refused(InvalidRising, Rising, value, value)
            self.refused(InvalidRising, Rising, value, ONES * 2)
        for tops, bottoms in (((), ()), (HALVES, HALVES), (HALVES * 2, ONES), (HALVES, ONES * 2), (HALVES, ()),
                              ((), ONES), (HALVES * 7, ONES * 7), (((1, 2), (1, 3)), ((1, 3), (1, 2)))):
            self.refused(InvalidRising, Rising, tops, bottoms)

    def test_equal_rows(self):
        for one, rising in enumerate(RISINGS):
            for other, value in enumerate(RISINGS):
                self.assertIs(rising == value, one == other)
                self.assertIs(rising != value, one != other)
            for value in NO_RISINGS:
                self.assertIs(rising == value, False)
                self.assertIs(rising != value, True)
        self.assertFalse(HALF == Rising(((1, 1),), ((1, 2),)))
        self.assertFalse(HALF == Rising(((1, 2),) * 2, ONES * 2))

    def test_signs(self):
        for rising in RISINGS:
            self.same(len(rising), len(rising.tops))
            wanted = sorted([(place, 1) for place in rising.tops] + [(place, -1) for place in rising.bottoms],
                            key=lambda told: fraction(told[0]))
            self.same(list(rising), wanted)
            self.same([told for told in rising], wanted)
            texts = [" ".join(f"{top}/{bottom}" for top, bottom in side) for side in (rising.tops, rising.bottoms)]
            self.same(str(rising), f"rising {texts[0]} over {texts[1]}")
        self.same(list(TWICE), [((1, 2), 1), ((1, 2), 1), ((1, 1), -1), ((1, 1), -1)])
        self.same(str(TWICE), "rising 1/2 1/2 over 1/1 1/1")

    def test_values(self):
        for rising in RISINGS:
            for number in (0, 1, 2, 3, 10):
                self.same(rising.value(number), pair(rising_number(rising, number)))
            for number in (0, 1, 2, 5, 99, 100):
                one, other = rising_number(rising, number), rising_number(rising, number + 1)
                self.same(rising.factor(number), pair(other / one))
        self.same(HALF.value(100), pair(rising_number(HALF, 100)))

    def test_values_refuse(self):
        for action in (HALF.value, HALF.factor, WIDEST.value):
            self.refused_each(InvalidNumber, action, NO_INTEGERS + (-1, 101, LONG))

    def test_exponents(self):
        for rising in RISINGS:
            for prime in (2, 3, 5, 7, 11, 13):
                for number in (0, 1, 2, 3, 4, 5, 8, 9, 27, 60):
                    wanted = exponent_in(prime, rising_number(rising, number))
                    self.same(rising.exponent(prime, number), wanted)

    def test_exponents_of_great_numbers(self):
        for rising in RISINGS:
            for prime in (2, 3, 5, 7, 31, 841 + 12, 999983):
                for number in (10 ** 30, 10 ** 30 - 1, prime ** 4, prime ** 4 - 1, prime ** 4 + 1, 12345678901234567890):
                    wanted = sum(sign * exponent_by_powers(prime, place, number) for place, sign in rising)
                    self.same(rising.exponent(prime, number), wanted)

    def test_exponents_refuse(self):
        self.refused_each(InvalidNumber, HALF.exponent, NO_PRIMES, 1)
        self.refused_each(InvalidNumber, lambda number: HALF.exponent(3, number),
                          NO_INTEGERS + (-1, 10 ** 30 + 1, LONG))
        self.refused(InvalidNumber(4), HALF.exponent, 4, -1)


class Images(Case):

    def test_images(self):
        for rising in RISINGS:
            for unit in plain_units(rising.common)[:40]:
                found = rising.image(unit)
                self.assertIs(type(found), Rising)
                self.same(list(found), [(pair(place), sign) for place, sign in images_of(rising, unit)])
                self.same((found.common, len(found)), (rising.common, len(rising)))
            self.assertTrue(rising.image(1) == rising)

    def test_images_refuse(self):
        for rising in RISINGS:
            wrong = [unit for unit in range(-2, rising.common + 3) if unit not in plain_units(rising.common)]
            self.refused_each(InvalidNumber, rising.image, NO_INTEGERS + tuple(wrong) + (LONG,))
        self.refused(InvalidNumber(2), HALF.image, 2)

    def test_undoing_and_steps(self):
        for rising in RISINGS:
            for prime in (2, 3, 5, 7, 11, 29, 853):
                if rising.common % prime != 0:
                    unit = rising.undoing(prime)
                    self.same((prime * unit % rising.common, unit in plain_units(rising.common)), (1, True))
                    step = rising.step(prime)
                    self.same((step.tops, step.bottoms), plain_steps(rising, prime))
                    self.assertTrue(step == rising.image(unit))

    def test_steps_come_back(self):
        for rising in RISINGS:
            for prime in (2, 3, 5, 7, 11, 13, 999983):
                if rising.common % prime != 0:
                    found = rising.steps(prime)
                    self.assertIs(type(found), tuple)
                    self.assertTrue(found[0] == rising)
                    for one, other in zip(found, found[1:] + found[:1]):
                        self.assertTrue(one.step(prime) == other)
                    self.assertEqual(len({str(one) for one in found}), len(found))
        self.same([len(HALF.steps(3)), len(THIRD.steps(5)), len(HALF_WAY.steps(2)), len(HALF_WAY.steps(19))],
                  [1, 2, 4, 2])

    def test_they_refuse(self):
        for name in ("undoing", "step", "steps"):
            for rising in RISINGS:
                action = getattr(rising, name)
                self.refused_each(InvalidNumber, action, NO_PRIMES)
                for prime in (2, 3, 5, 7):
                    if rising.common % prime == 0:
                        self.refused(InvalidOperation, action, prime)
        self.refused(InvalidNumber(4), PAIRED.step, 4)

    def test_exponents_go_by_steps(self):
        for rising in RISINGS:
            for prime in (11, 13, 29):
                if rising.common % prime != 0:
                    for number in (1, 30, 1000):
                        least = min(rising.exponent(prime, index) for index in range(number, number + prime))
                        self.assertLessEqual(least, rising.exponent(prime, number))


class Told(Case):

    def test_rows_that_tell(self):
        self.assertGreater(len(TOLD), 100)
        for row in TOLD:
            rising, scale = rising_of(row)
            self.same(scale, pair(prod([Fraction(top) ** top for top in row.tops], start=Fraction(1)) / prod(
                [bottom ** bottom for bottom in row.bottoms])))
            for number in range(6):
                wanted = fraction(row.value(number))
                self.assertEqual(fraction(scale) ** number * rising_number(rising, number), wanted)
            self.assertTrue(quotient_of(rising) == row)
            self.assertEqual([rising.image(unit) == rising for unit in plain_units(rising.common)],
                             [True] * len(plain_units(rising.common)))

    def test_rows_that_tell_none(self):
        self.refused_each(InvalidRow, rising_of, NO_ROWS)
        for row in [CHEBYSHEV, Quotient((2,), (1,)), Quotient((), (1,)), Quotient((8,), (7, 1)),
                    Quotient((6, 1), (3, 2, 1))] + balanced_rows(7)[::40] + [
                        row for row in drawn_rows(100) if not row.is_balanced or degree_of(row) > 6]:
            self.refused(InvalidOperation, rising_of, row)
        self.same([degree_of(Quotient((7,), (6, 1))), len(rising_of(Quotient((7,), (6, 1)))[0])], [6, 6])
        self.same(str(rising_of(TURNED)[0]), "rising 1/1 over 1/2")

    def test_quotients(self):
        fractions = [pair(Fraction(k, n)) for n in (1, 2, 3, 4, 6) for k in plain_units(n)]
        made = 0
        for many in (1, 2):
            for tops in combinations_with_replacement(fractions, many):
                for bottoms in combinations_with_replacement(fractions, many):
                    if not set(tops) & set(bottoms):
                        rising = Rising(tops, bottoms)
                        found = quotient_of(rising)
                        same = all(rising.image(unit) == rising for unit in plain_units(rising.common))
                        self.assertIs(found is not None, same, str(rising))
                        if found is not None:
                            made += 1
                            self.assertTrue(rising_of(found)[0] == rising)
        self.assertGreater(made, 20)

    def test_no_quotients(self):
        for rising in (THIRD, HALF_WAY, WIDEST, PAIRED.image(5), Rising(((1, 3), (1, 3)), ((2, 3), (2, 3))),
                       Rising(((1, 3), (1, 3), (2, 3)), ONES * 3), Rising(((1, 5), (2, 5), (3, 5)), ONES * 3)):
            self.assertIsNone(quotient_of(rising))
        self.assertTrue(quotient_of(Rising(HALVES * 4, ONES * 4)) == Quotient((2,) * 4, (1,) * 8))
        self.assertIsNone(quotient_of(Rising(HALVES * 5, ONES * 5)))
        self.assertTrue(quotient_of(rising_of(FIVE)[0]) == FIVE)
        self.refused_each(InvalidRising, quotient_of, NO_RISINGS)

    def test_rows_that_no_quotient_row_tells(self):
        third = Rising(((1, 3),), ONES)
        for number in range(20):
            self.assertEqual((fraction(third.value(number)) * 27 ** number).denominator, 1)
        self.assertIsNone(quotient_of(third))
        self.assertTrue(third.step(7) == third)

    def test_scales(self):
        self.same([rising_of(row)[1] for row in (BROKEN, MIDDLE, FIVE, TURNED)], [(64, 27), (4, 1), (3125, 1), (1, 4)])
