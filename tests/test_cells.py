"""[6.1] to [6.6] and wholerises.stair.cells."""

from fractions import Fraction
from itertools import combinations
from math import factorial, prod

from wholerises.errors import InvalidForms, InvalidNumber, InvalidOperation, InvalidRatio, TooMany
from wholerises.row.quotients import Quotient
from wholerises.stair import cells
from wholerises.stair.cells import Forms
from tests.support import (
    CATALAN, FORMS, LONG, MIDDLE, MIXED, NO_INTEGERS, NO_PRIMES, NO_RATIOS, OBJECTS, SKEW, WIDE, WRONG, Case,
    exponent_in, fraction, pair)

NO_SIDES = tuple(value for value in WRONG + OBJECTS if value != ()) + (
    1, (1,), ((0, 0),), ((1, 6),), ((6, 1),), ((-1, 1),), ((1, -1),), ((1,),), ((1, 2, 3),), ((True, 1),),
    ((1, False),), ((1, None),), ([1, 2],), [(1, 2)], ((1, 2), (0, 0)), ((1, 0),) * 6, ((1, LONG),), ("12",),
    {(1, 2): 1}, (1, 2))
PLACES = [Fraction(k, 12) for k in range(12)]


def plain_depth(forms, x, y):
    """D(x, y) by the definition."""
    return sum((i * x + j * y) // 1 for i, j in forms.tops) - sum((i * x + j * y) // 1 for i, j in forms.bottoms)


def plain_value(forms, one, other):
    """u(one, other) by the definition."""
    return Fraction(prod(factorial(i * one + j * other) for i, j in forms.tops),
                    prod(factorial(i * one + j * other) for i, j in forms.bottoms))


def plain_points(forms):
    """The told points by the definition."""
    lines = {(1, 0, Fraction(0)), (1, 0, Fraction(1)), (0, 1, Fraction(0)), (0, 1, Fraction(1))}
    lines |= {(i, j, Fraction(k)) for i, j in forms.tops + forms.bottoms for k in range(1, i + j + 1)}
    crossings = set()
    for (a, b, c), (d, e, f) in combinations(sorted(lines), 2):
        size = a * e - b * d
        if size:
            point = ((c * e - b * f) / size, (a * f - c * d) / size)
            if 0 <= min(point) and max(point) <= 1:
                crossings.add(point)
    found = set(crossings)
    for a, b, c in lines:
        row = sorted(point for point in crossings if a * point[0] + b * point[1] == c)
        found |= {((x + z) / 2, (y + w) / 2) for (x, y), (z, w) in zip(row, row[1:])}
    return sorted(point for point in found if max(point) < 1)


def is_plain_whole(forms):
    """Whether no told point has a depth below 0, and no excess is below 0."""
    heights = [plain_depth(forms, x, y) for x, y in plain_points(forms)]
    return min(heights + [plain_depth(forms, 1, 0), plain_depth(forms, 0, 1)]) >= 0


class Making(Case):

    def test_constants(self):
        self.same((cells.MAX_FACTOR, cells.MAX_FORMS, cells.LEAST_PRIME), (5, 5, 12500))

    def test_sides(self):
        forms = Forms(((2, 0), (0, 2), (0, 5), (2, 0)), ((1, 1), (0, 1)))
        self.same((forms.tops, forms.bottoms), (((0, 2), (0, 5), (2, 0), (2, 0)), ((0, 1), (1, 1))))
        forms = Forms(((1, 1), (2, 3), (1, 1), (5, 5)), ((2, 3), (1, 1), (3, 3), (2, 3)))
        self.same((forms.tops, forms.bottoms), (((1, 1), (5, 5)), ((2, 3), (3, 3))))

    def test_excesses(self):
        for forms in FORMS:
            wanted = tuple(sum(f[k] for f in forms.tops) - sum(f[k] for f in forms.bottoms) for k in (0, 1))
            self.same(forms.excesses, wanted)
            self.same(forms.excesses, (forms.depth((1, 1), (0, 1)), forms.depth((0, 1), (1, 1))))

    def test_texts(self):
        self.same([str(forms) for forms in (CATALAN, Forms((), ((0, 1),)), Forms(((5, 4), (1, 2)), ()))],
                  ["forms 0,2 2,0/0,1 1,0 1,1", "forms -/0,1", "forms 1,2 5,4/-"])

    def test_lengths(self):
        self.same([len(CATALAN), len(WIDE), len(Forms(((1, 0),) * 2, ())), len(Forms(((1, 0),), ((1, 0), (0, 1))))],
                  [5, 10, 2, 1])

    def test_in(self):
        for form in CATALAN.tops + CATALAN.bottoms:
            self.assertIs(form in CATALAN, True)
        for value in NO_INTEGERS + (1, 0, (2, 2), (0, 0), (True, 0), (0, True), (False, 1), (1, 0, 0), [1, 0], (6, 1),
                                    ((1, 0),), "1,0"):
            self.assertIs(value in CATALAN, False)

    def test_equal_forms(self):
        other = Forms(((0, 2), (2, 0), (3, 3)), ((3, 3), (1, 1), (0, 1), (1, 0)))
        self.assertIs(CATALAN == other, True)
        self.assertIs(CATALAN != other, False)
        for value in WRONG + (1, MIDDLE) + FORMS[1:] + (Forms(((2, 0), (0, 2)), ()), CATALAN.swapped().along(1, 1)):
            self.assertIs(CATALAN == value, False)
            self.assertIs(CATALAN != value, True)
        self.assertIs(Forms(((1, 0),), ((0, 1),)) == Forms(((1, 0),), ((1, 1),)), False)
        self.assertIs(Forms(((2, 0),), ((0, 1),)) == Forms(((1, 0),), ((0, 1),)), False)

    def test_no_iteration(self):
        self.refused(TypeError, iter, CATALAN)
        self.refused(TypeError, list, WIDE)

    def test_it_refuses(self):
        self.refused_each(InvalidForms, Forms, NO_SIDES, ((1, 0),))
        self.refused_each(InvalidForms, lambda bottoms: Forms(((1, 0),), bottoms), NO_SIDES)
        self.refused(InvalidForms, Forms, (), ())
        self.refused(InvalidForms, Forms, ((1, 2), (0, 1)), ((0, 1), (1, 2)))
        self.same(len(Forms(((5, 5),) * 5, ((0, 5),) * 5)), 10)


class Numbers(Case):

    def test_values(self):
        for forms in FORMS:
            for one in range(7):
                for other in range(7):
                    self.same(forms.value(one, other), pair(plain_value(forms, one, other)))

    def test_great_values(self):
        self.same(CATALAN.value(300, 0), pair(plain_value(CATALAN, 300, 0)))
        self.same(Forms((), ((1, 0),)).value(3, LONG), (1, 6))
        self.same(Forms(((0, 1), (3, 0)), ((3, 0),)).value(LONG, 4), (24, 1))
        self.same(WIDE.value(60, 60), pair(plain_value(WIDE, 60, 60)))

    def test_values_refuse(self):
        self.refused_each(InvalidNumber, CATALAN.value, NO_INTEGERS + (-1, -LONG), 2)
        self.refused_each(InvalidNumber, lambda other: CATALAN.value(2, other), NO_INTEGERS + (-1, -LONG))
        for one, other in ((301, 0), (0, 301), (LONG, LONG)):
            self.refused(TooMany(600), CATALAN.value, one, other)
        self.refused(TooMany(600), WIDE.value, 60, 61)
        self.refused(TooMany(600), Forms((), ((1, 1),)).value, 300, 301)
        self.refused(InvalidNumber(-1), CATALAN.value, 301, -1)
        self.refused(InvalidNumber(-2), CATALAN.value, -2, -1)

    def test_exponents(self):
        for forms in FORMS:
            for one in range(5):
                for other in range(5):
                    value = plain_value(forms, one, other)
                    for prime in (2, 3, 5, 7, 23):
                        self.same(forms.exponent(prime, one, other), exponent_in(prime, value))

    def test_exponents_are_sums_of_depths(self):
        for forms in FORMS:
            for prime, one, other in ((2, 10 ** 30, 10 ** 30), (3, 10 ** 30 - 1, 7), (999983, 0, 10 ** 30)):
                total, power = 0, prime
                while power <= 10 ** 32:
                    total += plain_depth(forms, Fraction(one, power), Fraction(other, power))
                    power *= prime
                self.same(forms.exponent(prime, one, other), total)

    def test_exponents_refuse(self):
        self.refused_each(InvalidNumber, CATALAN.exponent, NO_PRIMES, 1, 1)
        wrong = NO_INTEGERS + (-1, 10 ** 30 + 1)
        self.refused_each(InvalidNumber, lambda one: CATALAN.exponent(2, one, 1), wrong)
        self.refused_each(InvalidNumber, lambda other: CATALAN.exponent(2, 1, other), wrong)
        self.refused(InvalidNumber(4), CATALAN.exponent, 4, -1, -2)
        self.refused(InvalidNumber(-1), CATALAN.exponent, 2, -1, -2)

    def test_depths(self):
        for forms in FORMS:
            for x in PLACES:
                for y in PLACES:
                    self.same(forms.depth(pair(x), pair(y)), plain_depth(forms, x, y))
            for x, y in (((LONG, 1), (1, LONG)), ((LONG, LONG - 1), (LONG - 1, LONG)), ((7, 3), (9, 2))):
                self.same(forms.depth(x, y), plain_depth(forms, fraction(x), fraction(y)))

    def test_depths_refuse(self):
        self.refused_each(InvalidRatio, CATALAN.depth, NO_RATIOS, (1, 2))
        self.refused_each(InvalidRatio, lambda y: CATALAN.depth((1, 2), y), NO_RATIOS)
        self.refused(InvalidOperation, CATALAN.depth, (-1, 2), (1, 2))
        self.refused(InvalidOperation, CATALAN.depth, (1, 2), (-1, 2))
        self.refused(InvalidRatio, CATALAN.depth, (-1, 2), (2, 2))


class Points(Case):

    def test_points(self):
        for forms in FORMS + (Forms(((5, 5),), ((2, 3), (3, 2))), Forms(((1, 5), (5, 1)), ((4, 5), (3, 0), (0, 4)))):
            self.same(forms.points(), tuple((pair(x), pair(y)) for x, y in plain_points(forms)))

    def test_whole(self):
        for forms in FORMS:
            self.same(forms.is_whole(), is_plain_whole(forms))

    def test_many_forms(self):
        kinds = [(1, 0), (0, 1), (1, 1), (2, 1), (2, 2), (3, 1)]
        for tops in combinations(kinds, 2):
            for bottoms in combinations(kinds, 2):
                if tops != bottoms:
                    forms = Forms(tops, bottoms)
                    self.same(forms.is_whole(), is_plain_whole(forms))
                    self.check_fault(forms)

    def check_fault(self, forms):
        """The fault is one, and there is none exactly if the forms are whole."""
        found = forms.fault()
        self.assertIs(found is None, is_plain_whole(forms))
        if found is not None:
            self.assertIs(forms.is_fault(found), True)
            self.assertLess(plain_depth(forms, fraction(found[0]), fraction(found[1])), 0)
            self.same(found, tuple(pair(fraction(item)) for item in found))

    def test_faults(self):
        for forms in FORMS:
            self.check_fault(forms)

    def test_excesses_can_be_the_only_faults(self):
        for forms in (Forms((), ((0, 1),)), Forms((), ((1, 0),)), Forms(((1, 0),), ((1, 0), (0, 1)))):
            self.assertIs(forms.is_whole(), False)
            self.check_fault(forms)
        self.same([Forms((), ((0, 1),)).is_fault(((0, 1), (1, 1))), Forms((), ((0, 1),)).is_fault(((1, 1), (0, 1)))],
                  [True, False])

    def test_judged_faults(self):
        for forms in FORMS:
            for x in PLACES + [Fraction(1)]:
                for y in PLACES + [Fraction(1)]:
                    self.assertIs(forms.is_fault((pair(x), pair(y))), plain_depth(forms, x, y) < 0)

    def test_judged_long_ratios(self):
        long = 10 ** 5000
        self.assertIs(MIXED.is_fault(((1, long), (long - 1, long))), True)
        self.assertIs(MIXED.is_fault(((1, long), (long - 3, long - 2))), False)
        self.assertIs(MIXED.is_fault(((1, 10 ** 60), (10 ** 60 - 1, 10 ** 60))), True)

    def test_judged_others(self):
        third = (1, 3)
        self.judges(MIXED.is_fault, (((1, 3), (2, 3)),), WRONG + OBJECTS + (
            1, third, (third,), (third, (2, 3), third), [third, (2, 3)], (third, [2, 3]), ((1, 3), (4, 6)),
            ((-1, 3), (1, 3)), ((1, 3), (-1, 3)), ((2, 6), (2, 3)), (third, (True, 1)), ((False, 1), (1, 1)), ((1, 2), (-1, -2)), ((-1, 2), (3, 2)),
            ((1, 2), (3, 2)), ((3, 2), (1, 2)), (third, None), (None, third), (third, third), ((1, 0), (1, 2))))
        self.same(MIXED.is_fault(((1, 2), (1, 2))), True)


class Witnesses(Case):

    def test_witnesses(self):
        for forms in FORMS:
            for prime in (12503, 12511, 999983):
                if not is_plain_whole(forms):
                    found = forms.witness(prime)
                    self.assertEqual((type(found), len(found), type(found[0]), type(found[1])), (tuple, 2, int, int))
                    self.assertTrue(0 <= min(found) and max(found) <= 10 ** 30)
                    self.assertIs(forms.is_witness(prime, found), True)
                    self.assertLess(forms.exponent(prime, *found), 0)

    def test_the_least_primes(self):
        kinds = [(1, 0), (0, 1), (5, 4), (2, 5), (3, 5), (5, 3)]
        for tops in combinations(kinds, 2):
            for bottoms in combinations(kinds, 2):
                forms = Forms(tops, bottoms) if tops != bottoms else MIXED
                if not forms.is_whole():
                    self.assertLess(forms.exponent(12503, *forms.witness(12503)), 0)

    def test_witness_refuses(self):
        self.refused_each(InvalidNumber, MIXED.witness, NO_PRIMES)
        self.refused_each(InvalidOperation, MIXED.witness, (2, 12497))
        self.refused(InvalidOperation, CATALAN.witness, 12503)
        self.refused(InvalidOperation, CATALAN.witness, 2)
        self.refused(InvalidNumber(12501), CATALAN.witness, 12501)

    def test_judged_witnesses(self):
        for forms in FORMS:
            for prime in (2, 3, 5):
                for one in range(7):
                    for other in range(7):
                        wanted = exponent_in(prime, plain_value(forms, one, other)) < 0
                        self.assertIs(forms.is_witness(prime, (one, other)), wanted)

    def test_judged_great_witnesses(self):
        most = 10 ** 30
        forms = Forms((), ((1, 0), (0, 1)))
        self.judges(lambda value: forms.is_witness(2, value), ((most, 0), (0, most), (most, most), (2, 0)),
                    ((most + 1, 0), (0, most + 1), (-1, most), (most, -1), (0, 0), (1, 1)))

    def test_judged_others(self):
        self.judges(lambda value: MIXED.is_witness(2, value), ((1, 1), (1, 3)), WRONG + OBJECTS + (
            1, (1,), (1, 1, 1), [1, 1], (True, 1), (1, True), (1, None), ((1, 1), 1), (-1, 2), (1.0, 1), (0, 1)))

    def test_is_witness_refuses(self):
        self.refused_each(InvalidNumber, lambda prime: MIXED.is_witness(prime, (1, 1)), NO_PRIMES)
        self.refused(InvalidNumber(4), MIXED.is_witness, 4, None)


class Others(Case):

    def test_along(self):
        for forms in FORMS:
            for one in range(4):
                for other in range(4):
                    tops = [i * one + j * other for i, j in forms.tops]
                    bottoms = [i * one + j * other for i, j in forms.bottoms]
                    if sorted([n for n in tops if n]) == sorted([n for n in bottoms if n]):
                        self.refused(InvalidOperation, forms.along, one, other)
                    elif forms is not WIDE:
                        row = forms.along(one, other)
                        self.assertTrue(row == Quotient(tuple(n for n in tops if n), tuple(n for n in bottoms if n)))
                        self.same(row.value(2), forms.value(2 * one, 2 * other))
        self.same(str(CATALAN.along(30, 0)), "quotient 60/30 30")
        self.same(str(Forms(((1, 0),), ((0, 1),)).along(60, 60 - 20)), "quotient 60/40")
        self.same(str(Forms(((1, 0), (0, 1)), ()).along(60, 0)), "quotient 60/-")

    def test_along_refuses(self):
        wrong = NO_INTEGERS + (-1, 61, LONG)
        self.refused_each(InvalidNumber, lambda one: CATALAN.along(one, 1), wrong)
        self.refused_each(InvalidNumber, lambda other: CATALAN.along(1, other), wrong)
        self.refused(InvalidNumber(61), CATALAN.along, 61, -1)
        for one, other in ((0, 0), (31, 0), (60, 60), (0, 31)):
            self.refused(InvalidOperation, CATALAN.along, one, other)
        self.refused(InvalidOperation, Forms(((1, 0),), ((0, 1),)).along, 59, 58)

    def test_swapped(self):
        for forms in FORMS:
            other = forms.swapped()
            self.same(other.tops, tuple(sorted((j, i) for i, j in forms.tops)))
            self.same(other.bottoms, tuple(sorted((j, i) for i, j in forms.bottoms)))
            self.assertTrue(other.swapped() == forms)
            self.same(other.value(2, 3), forms.value(3, 2))

    def test_what_is_not_true(self):
        self.assertIs(MIXED.is_whole(), False)
        self.same([MIXED.depth(x, y) for x, y in MIXED.points() if 0 in (x[0], y[0])], [0, 0, 0])
        self.same(SKEW.is_whole(), False)
        self.same([SKEW.value(number, number)[1] for number in range(1, 60)], [1] * 59)

    def test_forms_never_change(self):
        before = [(str(forms), forms.points(), forms.fault()) for forms in FORMS]
        for forms in FORMS:
            forms.swapped(), forms.value(1, 1), forms == CATALAN, forms.is_whole()
        self.same([(str(forms), forms.points(), forms.fault()) for forms in FORMS], before)
