"""[18.1] to [18.6], [0.13], [0.17] and wholerises.family.families."""

from fractions import Fraction
from math import gcd

from wholerises.circle.products import degree_of, row_of_parts
from wholerises.errors import InvalidNumber, InvalidOperation, InvalidRow, UnknownName
from wholerises.family import families as module
from wholerises.family.families import (
    apart_rows, each_algebraic, families_of, family_degree, family_members, family_row, is_algebraic, is_apart,
    rows_of_degree)
from wholerises.group.groups import is_finite_group
from wholerises.kept.companions import kept_table
from wholerises.kept.tables import is_definite
from wholerises.row.quotients import Quotient
from wholerises.stair.wholes import is_whole
from tests.support import (
    BROKEN, CHEBYSHEV, FIVE, LONG, MIDDLE, NO_INTEGERS, NO_ROWS, OBJECTS, ROWS, TURNED, WRONG, Case, balanced_rows,
    cyclotomic_sets, drawn_rows, family_rows, family_sides, plain_units)

NAMES = ("one", "three", "two")
NO_NAMES = WRONG + OBJECTS + (1, "four", "One", "one ", ("one",), ["one"], "", "oneone", "o")
ALL = {}


def plain_rows(degree):
    """All algebraic rows of a degree, by [18.5]: unlike places that alternate round the circle, 1 behind all others."""
    if degree not in ALL:
        drawn = []
        for numbers in cyclotomic_sets(degree):
            if len(set(numbers)) == len(numbers):
                drawn.append((numbers, sorted(Fraction(unit, s) for s in numbers for unit in plain_units(s))))
        found = []
        for tops, ones in drawn:
            for bottoms, others in drawn:
                if 1 in bottoms and 1 not in tops and all(a < b for a, b in zip(ones, others)) and all(
                        b < a for a, b in zip(ones[1:], others)):
                    row = row_of_parts({**{s: 1 for s in tops}, **{s: -1 for s in bottoms}})
                    found.append((row.tops, row.bottoms))
        ALL[degree] = sorted(found)
    return ALL[degree]


def plain_members(row):
    """All triples whose row is the row, by looking at all of them."""
    found = []
    for one in range(1, 60):
        for other in range(1, one + 1):
            for name in NAMES if one > other else ("one", "three"):
                tops, bottoms = family_sides(name, one, other)
                left = {member: tops.count(member) - bottoms.count(member) for member in tops + bottoms}
                if {member: count for member, count in left.items() if count} == row.members:
                    found.append((name, one, other))
    return tuple(sorted(found))


class Algebraic(Case):

    def test_constants(self):
        self.same((module.FAMILIES, module.MOST_DEGREE), (("one", "three", "two"), 8))

    def test_algebraic_rows(self):
        for row in ROWS + tuple(drawn_rows(300)) + tuple(family_rows()[::7]):
            wanted = sum(row.tops) == sum(row.bottoms) and len(row.bottoms) == len(row.tops) + 1 and is_whole(row)
            self.assertIs(is_algebraic(row), wanted)
            self.assertIs(is_apart(row), wanted and not plain_members(row))
        for row in family_rows():
            self.assertIs(is_algebraic(row), True)
            self.assertIs(is_apart(row), False)

    def test_small_degrees_by_the_definition(self):
        for degree in (1, 2, 3, 4, 5):
            wanted = sorted((row.tops, row.bottoms) for row in balanced_rows(degree)
                            if row.height == 1 and is_whole(row))
            self.same([(row.tops, row.bottoms) for row in rows_of_degree(degree)], wanted)

    def test_all_degrees(self):
        for degree in range(1, 9):
            found = rows_of_degree(degree)
            self.assertIsInstance(found, tuple)
            self.same([(row.tops, row.bottoms) for row in found], plain_rows(degree))
            self.same({degree_of(row) for row in found}, {degree})
        self.same([len(rows_of_degree(degree)) for degree in range(1, 9)], [1, 3, 3, 11, 7, 23, 21, 51])

    def test_the_main_statement(self):
        for degree in range(1, 9):
            for row in rows_of_degree(degree):
                self.assertTrue(is_whole(row) and row.is_balanced and row.height == 1)
                self.assertIs(is_definite(kept_table(row)), True)
                if degree < 5:
                    self.assertIs(is_finite_group(row), True)
                self.assertLessEqual((row.greatest <= 30, len(row.tops) <= 4), (True, True))

    def test_rows_apart(self):
        for degree in range(1, 9):
            wanted = [row for row in rows_of_degree(degree) if not plain_members(row)]
            found = apart_rows(degree)
            self.assertIsInstance(found, tuple)
            self.same([str(row) for row in found], [str(row) for row in wanted])
            for row in found:
                self.assertIs(is_apart(row), True)
        told = [row for degree in range(1, 9) for row in apart_rows(degree)]
        self.same((len(told), len([row for row in told if row.divided() == row])), (54, 52))

    def test_each_algebraic(self):
        for most in range(1, 9):
            wanted = [str(row) for degree in range(1, most + 1) for row in rows_of_degree(degree)]
            self.same([str(row) for row in each_algebraic(most)], wanted)

    def test_they_refuse(self):
        for action in (is_algebraic, is_apart, families_of):
            self.refused_each(InvalidRow, action, NO_ROWS)
        wrong = NO_INTEGERS + (0, -1, 9, LONG)
        self.refused_each(InvalidNumber, rows_of_degree, wrong)
        self.refused_each(InvalidNumber, apart_rows, wrong)
        for value in wrong:
            self.refused(InvalidNumber(value), next, each_algebraic(value))


class Families(Case):

    def test_rows(self):
        for one in range(1, 60):
            for other in range(1, 60):
                for name in NAMES:
                    try:
                        row = Quotient(*family_sides(name, one, other))
                    except InvalidRow:
                        row = None
                    if one < other or (name == "two" and one == other) or row is None:
                        self.refused(InvalidOperation, family_row, name, one, other)
                        self.refused(InvalidOperation, family_degree, name, one, other)
                    else:
                        self.assertTrue(family_row(name, one, other) == row)
                        self.same(family_degree(name, one, other), degree_of(row))

    def test_families_of(self):
        rows = family_rows()[::5] + list(ROWS) + drawn_rows(100) + [row for d in (2, 4, 6, 8) for row in rows_of_degree(d)]
        for row in rows:
            self.same(families_of(row), plain_members(row))
        self.same(families_of(MIDDLE), (("one", 1, 1), ("three", 1, 1)))
        self.same(families_of(MIDDLE * 30), plain_members(MIDDLE * 30))
        for row in (Quotient((1,), ()), Quotient((), (1,)), Quotient((), (2, 2)), FIVE, CHEBYSHEV, BROKEN, TURNED):
            self.same(families_of(row), ())

    def test_members(self):
        for name in NAMES:
            for degree in range(1, 9):
                wanted = []
                for one in range(1, 60):
                    for other in range(1, one + (name != "two")):
                        divisor = gcd(one, other)
                        told = {"one": one + other - divisor, "two": one, "three": one + other}[name]
                        if name != "one" and one // divisor % 2 and other // divisor % 2:
                            told -= divisor
                        if told == degree:
                            wanted.append((one, other))
                found = family_members(name, degree)
                self.same(found, tuple(wanted))
                for one, other in found:
                    self.same(degree_of(family_row(name, one, other)), degree)

    def test_multiples(self):
        for row in (CHEBYSHEV, Quotient((12, 1), (6, 4, 3)), Quotient((9, 1), (5, 3, 2)), MIDDLE):
            for factor in range(1, 60 // row.greatest + 1):
                self.assertIs(is_algebraic(row * factor), True)
                self.same(degree_of(row * factor), factor * degree_of(row))
        self.assertIs(is_apart(Quotient((24, 2), (12, 8, 6))), True)

    def test_they_refuse(self):
        for action in (family_row, family_degree):
            self.refused_each(UnknownName, action, NO_NAMES, 2, 1)
            self.refused_each(InvalidNumber, lambda one: action("one", one, 1), NO_INTEGERS + (0, -1, 60, LONG))
            self.refused_each(InvalidNumber, lambda other: action("two", 2, other), NO_INTEGERS + (0, -1, 60, LONG))
            self.refused(UnknownName(None), action, None, 0, 0)
            self.refused(InvalidNumber(0), action, "one", 0, -1)
            self.refused(InvalidNumber(-1), action, "one", 1, -1)
            self.refused(InvalidNumber(60), action, "two", 1, 60)
            self.refused(InvalidOperation, action, "one", 1, 2)
            self.refused(InvalidOperation, action, "two", 3, 3)
            self.refused(InvalidOperation, action, "two", 31, 1)
            self.refused(InvalidOperation, action, "one", 59, 59)
            self.refused(InvalidOperation, action, "three", 29, 27)
        self.refused_each(UnknownName, family_members, NO_NAMES, 1)
        self.refused_each(InvalidNumber, lambda degree: family_members("two", degree), NO_INTEGERS + (0, -1, 9, LONG))
        self.refused(UnknownName("four"), family_members, "four", 0)
