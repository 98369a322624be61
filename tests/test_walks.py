"""[10.1] to [10.6] and wholerises.circle.walks."""

from fractions import Fraction
from math import lcm

from wholerises.circle import walks as module
from wholerises.circle.walks import (
    alternating_units, difference_of_signs, does_alternate, does_alternate_at_all, each_mate, least_difference,
    pairs_at_all, turned)
from wholerises.errors import InvalidNumber, InvalidOperation, InvalidRatio, InvalidRising
from wholerises.rise.risings import Rising, rising_of
from wholerises.rise.units import is_whole_up_to_powers
from wholerises.stair.wholes import is_whole
from tests.support import (
    HALF, HALF_WAY, LONG, NO_INTEGERS, NO_RATIOS, NO_RISINGS, PAIRED, RISINGS, TWICE, WIDEST, Case, balanced_rows,
    fraction, images_of, pair, plain_units)

SOME = [rising for rising in RISINGS if rising is not WIDEST]
TOLD = [rising_of(row)[0] for degree in (1, 2, 3, 4) for row in balanced_rows(degree)[::5]]


def does_take_turns(rising, unit):
    """Whether the image alternates, by the definition."""
    told = images_of(rising, unit)
    signs = [sign for image, sign in told]
    unlike = len({image for image, sign in told}) == len(told)
    return unlike and all(signs[at] != signs[at - 1] for at in range(len(signs)))


def plain_difference(rising, unit):
    """The difference of signs, by the definition."""
    told = images_of(rising, unit)
    tops = [image for image, sign in told if sign == 1]
    bottoms = [image for image, sign in told if sign == -1]
    return abs(sum((-1) ** (j + 1 + sum(1 for bottom in bottoms if bottom < top)) for j, top in enumerate(tops)))


def moved(place, far):
    """A place, moved."""
    found = (fraction(place) + far) % 1
    return pair(found) if found else (1, 1)


class Mates(Case):

    def test_constant(self):
        self.same(module.MOST_PAIRED, 30)

    def test_mates(self):
        for rising in SOME + TOLD:
            wanted = []
            for unit in plain_units(rising.common):
                told = [(pair(image), sign) for image, sign in images_of(rising, unit)]
                if told not in wanted:
                    wanted.append(told)
            mates = list(each_mate(rising))
            self.same([list(mate) for mate in mates], wanted)
            self.assertTrue(mates[0] == rising)
            self.assertEqual(len(plain_units(rising.common)) % len(mates), 0)
            for mate in mates[1:3]:
                self.assertEqual({str(one) for one in each_mate(mate)}, {str(one) for one in mates})
        self.same(len(list(each_mate(WIDEST))), 192)

    def test_rows_that_are_told_have_one_mate(self):
        for rising in TOLD:
            self.same(len(list(each_mate(rising))), 1)

    def test_mates_refuse(self):
        for value in NO_RISINGS:
            self.refused(InvalidRising, next, each_mate(value))

    def test_turned(self):
        for rising in SOME:
            for ratio in ((0, 1), (1, 1), (-1, 1), (1, 2), (1, 3), (-1, 4), (7, 2), (-25, 6), (10 ** 59, 1), (1, 7)):
                places = [[moved(place, fraction(ratio)) for place in side] for side in (rising.tops, rising.bottoms)]
                common = lcm(*[bottom for top, bottom in places[0] + places[1]])
                if common <= 840:
                    self.assertTrue(turned(rising, ratio) == Rising(tuple(places[0]), tuple(places[1])))
                else:
                    self.refused(InvalidOperation, turned, rising, ratio)
            self.assertTrue(turned(turned(rising, (1, 2)), (-1, 2)) == rising)

    def test_turned_to_the_bound(self):
        self.same(turned(HALF, (1, 840)).common, 840)
        self.same(turned(HALF, (1, 420)).common, 420)
        self.refused(InvalidOperation, turned, HALF, (1, 841))
        self.refused(InvalidOperation, turned, HALF, (1, 421))
        self.refused(InvalidOperation, turned, HALF, (1, LONG))
        self.same(turned(HALF, (LONG, 2)).tops, ((1, 1),))

    def test_turned_refuses(self):
        self.refused_each(InvalidRising, turned, NO_RISINGS, (1, 2))
        self.refused_each(InvalidRatio, lambda ratio: turned(HALF, ratio), NO_RATIOS)
        self.refused(InvalidRising, turned, None, None)


class Turns(Case):

    def test_alternating(self):
        for rising in SOME + TOLD:
            told = [unit for unit in plain_units(rising.common) if does_take_turns(rising, unit)]
            for unit in plain_units(rising.common):
                self.assertIs(does_alternate(rising, unit), unit in told)
            self.same(alternating_units(rising), tuple(told))
            self.assertIs(does_alternate_at_all(rising), told == plain_units(rising.common))
        self.assertIs(does_alternate_at_all(WIDEST), False)
        self.same(alternating_units(TWICE), ())

    def test_one_top_always_alternates(self):
        for bottom in (2, 3, 10, 840):
            for rising in (Rising(((1, bottom),), ((1, 1),)), Rising(((1, 1),), ((1, bottom),))):
                self.assertIs(does_alternate_at_all(rising), True)

    def test_algebraic_rows(self):
        for degree in (1, 2, 3, 4):
            for row in balanced_rows(degree):
                wanted = is_whole(row) and row.height == 1
                found = rising_of(row)[0]
                self.assertIs(does_alternate_at_all(found) and (1, 1) in found.bottoms, wanted)

    def test_differences(self):
        for rising in SOME + TOLD:
            units = plain_units(rising.common)
            told = [plain_difference(rising, unit) for unit in units]
            self.same([difference_of_signs(rising, unit) for unit in units], told)
            self.same(least_difference(rising), (units[told.index(min(told))], min(told)))
            for unit, difference in zip(units, told):
                self.assertEqual((len(rising) - difference) % 2, 0)
                self.assertIs(difference == len(rising), does_alternate(rising, unit))
                self.assertEqual(difference_of_signs(Rising(rising.bottoms, rising.tops), unit), difference)

    def test_differences_of_turned_rows(self):
        for rising in SOME:
            for ratio in ((1, 2), (1, 3), (2, 5), (-1, 12)):
                if lcm(rising.common, ratio[1]) <= 840:
                    self.same(difference_of_signs(turned(rising, ratio), 1), difference_of_signs(rising, 1))

    def test_they_refuse(self):
        for action in (does_alternate, difference_of_signs):
            self.refused_each(InvalidRising, action, NO_RISINGS, 1)
            self.refused_each(InvalidNumber, lambda unit: action(PAIRED, unit),
                              NO_INTEGERS + (0, -1, 2, 3, 4, 6, 8, 9, 10, 12, 13, LONG))
            self.refused(InvalidNumber(5), action, HALF_WAY, 5)
            self.refused(InvalidRising, action, None, 0)
        for action in (does_alternate_at_all, alternating_units, least_difference):
            self.refused_each(InvalidRising, action, NO_RISINGS)


class Pairs(Case):

    def test_pairs(self):
        for number in list(range(2, 13)) + [15]:
            wanted = []
            inner = [Fraction(k, number) for k in range(1, number)]
            for f in inner:
                for g in inner:
                    for h in inner:
                        if f < g and h not in (f, g):
                            rising = Rising((pair(f), pair(g)), (pair(h), (1, 1)))
                            units = plain_units(number)
                            if rising.common == number and all(does_take_turns(rising, unit) for unit in units):
                                wanted.append((pair(f), pair(g), pair(h)))
            self.same(pairs_at_all(number), tuple(wanted))

    def test_greater_numbers(self):
        self.same([len(pairs_at_all(number)) for number in (14, 16, 20, 24, 28, 29, 30)], [18, 12, 36, 36, 18, 0, 72])
        for number in range(2, 31):
            found = pairs_at_all(number)
            values = [tuple(fraction(place) for place in told) for told in found]
            self.assertEqual(values, sorted(values))
            for f, g, h in found[::3]:
                rising = Rising((f, g), (h, (1, 1)))
                self.assertEqual((rising.common, does_alternate_at_all(rising)), (number, True))
                self.assertTrue(is_whole_up_to_powers(rising))

    def test_pairs_refuse(self):
        self.refused_each(InvalidNumber, pairs_at_all, NO_INTEGERS + (0, 1, -2, 31, LONG))
