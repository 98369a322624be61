"""[0.15], [9.1] to [9.5] and wholerises.rise.units."""

from fractions import Fraction
from itertools import combinations_with_replacement
from math import gcd

from wholerises.errors import InvalidNumber, InvalidOperation, InvalidRising, Refused
from wholerises.rise.risings import Rising, rising_of
from wholerises.rise.units import (
    broken_units, constant, each_walk, is_rising_fault, is_whole_up_to_powers, rising_fault, rising_witness, walk,
    worst_height)
from wholerises.stair.wholes import is_whole
from tests.support import (
    HALF, LONG, NO_INTEGERS, NO_PRIMES, NO_RATIOS, NO_RISINGS, RISINGS, THIRD, WIDEST, Case, balanced_rows,
    exponent_in, fraction, images_of, is_plain_prime, pair, plain_units, rising_number)

FRACTIONS = [pair(Fraction(k, n)) for n in (1, 2, 3, 4, 5) for k in plain_units(n)]
SOME = list(RISINGS) + [
    Rising(tops, bottoms) for tops in combinations_with_replacement(FRACTIONS, 2)
    for bottoms in combinations_with_replacement(FRACTIONS, 2) if not set(tops) & set(bottoms)][::3] + [
        Rising((one,), (other,)) for one in FRACTIONS for other in FRACTIONS if one != other]
FEW = [rising for rising in SOME if rising.common < 30]


def plain_walk(rising, unit):
    """The walk, by the definition."""
    told = images_of(rising, unit)
    return [(image, sum(sign for place, sign in told if place <= image)) for image in sorted({one for one, _ in told})]


def plain_faults(rising):
    """All faults, by the definition, by the units, and by the sizes of the images."""
    found = []
    for unit in plain_units(rising.common):
        below = [image for image, height in plain_walk(rising, unit) if height < 0]
        for image in below:
            places = [place for place in rising.bottoms if (fraction(place) * unit - image).denominator == 1]
            if places:
                found.append((unit, places[0]))
    return found


class Walks(Case):

    def test_walks(self):
        for rising in SOME:
            units = plain_units(rising.common)
            told = list(each_walk(rising)) if len(units) < 30 else [(unit, walk(rising, unit)) for unit in units[:20]]
            self.same([unit for unit, steps in told], units[:len(told)])
            for unit, steps in told:
                self.same(steps, tuple((pair(image), height) for image, height in plain_walk(rising, unit)))
                self.same(walk(rising, unit), steps)
                self.same(steps[-1][1], 0)

    def test_each_walk_goes_through_all_units(self):
        self.same([unit for unit, steps in each_walk(WIDEST)], plain_units(840))

    def test_walks_refuse(self):
        self.refused_each(InvalidRising, walk, NO_RISINGS, 1)
        self.refused_each(InvalidNumber, lambda unit: walk(HALF, unit), NO_INTEGERS + (0, -1, 2, 3, LONG))
        self.refused_each(InvalidNumber, lambda unit: walk(THIRD, unit), (0, 2, 3, 4, 6, 7, -1))
        self.refused(InvalidRising, walk, None, 0)
        for value in NO_RISINGS:
            self.refused(InvalidRising, next, each_walk(value))

    def test_broken_units(self):
        for rising in SOME:
            faults = plain_faults(rising) if rising.common < 200 else None
            if faults is not None:
                self.same(broken_units(rising), tuple(sorted({unit for unit, place in faults})))
                self.same(is_whole_up_to_powers(rising), not faults)
                self.same(rising_fault(rising), faults[0] if faults else None)
        self.same(len(broken_units(WIDEST)) > 20, True)
        self.same(broken_units(Rising(((1, 1),), ((1, 2),))), (1,))

    def test_worst_heights(self):
        for rising in SOME:
            if rising.common < 200:
                told = [(min([0] + [height for image, height in plain_walk(rising, unit)]), unit)
                        for unit in plain_units(rising.common)]
                self.same(worst_height(rising), min(told))

    def test_broken_units_need_not_come_in_pairs(self):
        self.same(broken_units(THIRD), (5,))
        self.same(is_whole_up_to_powers(THIRD), False)
        self.assertTrue(all(height >= 0 for image, height in walk(THIRD, 1)))

    def test_rows_of_quotients(self):
        for degree in (1, 2, 3, 4):
            for row in balanced_rows(degree)[::4]:
                self.same(is_whole_up_to_powers(rising_of(row)[0]), is_whole(row))

    def test_they_refuse(self):
        for action in (broken_units, is_whole_up_to_powers, rising_fault, constant, worst_height):
            self.refused_each(InvalidRising, action, NO_RISINGS)


class Faults(Case):

    def test_faults(self):
        for rising in FEW:
            faults = plain_faults(rising)
            for unit in range(-1, rising.common + 2):
                for place in rising.tops + rising.bottoms + ((1, 7), (0, 1)):
                    self.assertIs(is_rising_fault(rising, (unit, place)), (unit, place) in faults)

    def test_no_faults(self):
        for rising in (HALF, THIRD, WIDEST):
            for value in NO_RATIOS + ((5, (1, 2), 1), [5, (1, 2)], (True, (1, 2)), (5, (True, 2)), (5, [1, 2]),
                                      (5, (2, 4)), (5, None), (None, (1, 2)), (5, (1, 3)), (11, (1, 2)), (-1, (1, 2)),
                                      (6 * 10 ** 70 + 5, (1, 2)), (5, (10 ** 400, 10 ** 400 + 1)), (5,), ("5", (1, 2))):
                self.assertIs(is_rising_fault(rising, value), False)
        self.assertIs(is_rising_fault(THIRD, (5, (1, 2))), True)
        fault = Rising(((1, 1),), ((1, 2),))
        self.assertIs(is_rising_fault(fault, (1, (1, 2))), True)
        self.assertIs(is_rising_fault(fault, (True, (1, 2))), False)
        self.refused_each(InvalidRising, is_rising_fault, NO_RISINGS, (1, (1, 2)))
        self.assertIs(is_rising_fault(THIRD, rising_fault(THIRD)), True)


class Witnesses(Case):

    def test_witnesses(self):
        for rising in FEW:
            primes = [prime for prime in range(rising.common + 1, rising.common + 40) if is_plain_prime(prime)]
            for prime in primes[:5]:
                unit = rising.undoing(prime)
                below = [unit for unit, place in plain_faults(rising)]
                if unit in below:
                    found = rising_witness(rising, prime)
                    self.assertLessEqual(1, found)
                    self.assertLessEqual(found, prime)
                    for number in range(found + 1):
                        exponent = exponent_in(prime, rising_number(rising, number))
                        self.assertIs(exponent < 0, number == found)
                else:
                    self.refused(Refused(("unit", unit)), rising_witness, rising, prime)
                    self.assertGreaterEqual(min(rising.exponent(prime, number) for number in range(prime + 1)), 0)

    def test_witnesses_at_great_primes(self):
        for rising in (THIRD, WIDEST, Rising(((1, 1),), ((1, 2),))):
            for prime in (999983, 999979, 999961, 853, 857):
                if rising.undoing(prime) in broken_units(rising):
                    found = rising_witness(rising, prime)
                    self.assertLess(rising.exponent(prime, found), 0)
                    self.assertGreaterEqual(rising.exponent(prime, found - 1), 0)
        self.same(rising_witness(THIRD, 11), 6)

    def test_a_witness_is_the_depth_of_its_fault(self):
        for rising in FEW:
            for unit, place in plain_faults(rising):
                for prime in [prime for prime in range(rising.common + 1, 200) if is_plain_prime(prime)][:12]:
                    if prime * unit % rising.common == 1:
                        image = fraction(place) * unit
                        image = image - (image.numerator - 1) // image.denominator
                        number = prime * image - fraction(place) + 1
                        self.assertEqual((number.denominator, 1 <= number <= prime), (1, True))
                        height = [height for one, height in plain_walk(rising, unit) if one == image][0]
                        self.same(rising.exponent(prime, int(number)), height)

    def test_witnesses_refuse(self):
        self.refused_each(InvalidRising, rising_witness, NO_RISINGS, 11)
        self.refused_each(InvalidNumber, lambda prime: rising_witness(THIRD, prime), NO_PRIMES)
        self.refused_each(InvalidOperation, lambda prime: rising_witness(THIRD, prime), (2, 3, 5))
        self.refused(InvalidOperation, rising_witness, WIDEST, 839)
        self.refused(InvalidOperation, rising_witness, HALF, 2)
        self.refused(Refused(("unit", 1)), rising_witness, HALF, 3)
        self.refused(InvalidRising, rising_witness, None, 4)
        five = Rising(((1, 5),), ((2, 5),))
        self.refused(InvalidOperation, rising_witness, five, 5)
        self.assertLess(five.exponent(7, rising_witness(five, 7)), 0)


class Constants(Case):

    def test_constants(self):
        made = 0
        for rising in FEW:
            faults = plain_faults(rising)
            if faults:
                self.refused(Refused(("fault", faults[0])), constant, rising)
                continue
            made += 1
            found = constant(rising)
            wanted = 1
            for prime in [prime for prime in range(2, 40) if rising.common % prime == 0 and is_plain_prime(prime)]:
                length = min(length for length in range(20) if prime ** length >= rising.common)
                bottoms = sum(-exponent_in(prime, 1 / Fraction(place[1])) for place in rising.tops)
                bottoms -= sum(-exponent_in(prime, 1 / Fraction(place[1])) for place in rising.bottoms)
                many = sum(1 for place in rising.bottoms if gcd(place[1], prime) == 1)
                wanted *= prime ** max(0, bottoms + many * (2 + length))
            self.same(found, wanted)
            for number in range(25):
                self.assertEqual((found ** number * rising_number(rising, number)).denominator, 1)
        self.assertGreater(made, 40)

    def test_some(self):
        self.same(constant(HALF), 16)
        self.same(constant(Rising(((1, 2),) * 6, ((1, 1),) * 6)), 16 ** 6)
        self.refused(Refused(("fault", (2, (2, 3)))), constant, Rising(((1, 3),), ((2, 3),)))
        self.same(constant(Rising(((1, 4), (3, 4)), ((1, 2), (1, 1)))), 2 ** (4 - 1 + 4))

    def test_the_constant_need_not_be_the_least(self):
        self.assertTrue(all((4 ** number * rising_number(HALF, number)).denominator == 1 for number in range(40)))
