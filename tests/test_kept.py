"""[11.3] to [11.5] and wholerises.kept.tables."""

import random
from fractions import Fraction
from itertools import product

from wholerises.circle.products import degree_of
from wholerises.errors import InvalidOperation, InvalidRow, InvalidTable
from wholerises.kept.companions import companions, kept_table, sign_difference
from wholerises.kept.tables import back_table, does_keep, is_definite, is_low_row, low_row, signs_of
from wholerises.row.quotients import Quotient
from wholerises.stair.wholes import is_whole
from tests.support import (
    BROKEN, CHEBYSHEV, FIVE, GREAT, LONG, MIDDLE, NO_ROWS, OBJECTS, TURNED, WRONG, Case, balanced_rows, exchanged,
    multiplied, plain_determinant, plain_unit)

FIT = [row for degree, by in ((1, 1), (2, 1), (3, 1), (4, 9), (5, 11), (6, 97), (7, 97), (8, 499))
       for row in balanced_rows(degree)[::by]] + [CHEBYSHEV, FIVE, Quotient((8,), (7, 1)), Quotient((9,), (8, 1))]
NO_TABLES = WRONG + OBJECTS + (
    1, (1,), (1, 2), [[1]], ([1],), ((1, 2),), ((1,), (2,)), ((1, 2), (3,)), ((True,),), ((1, 2), (3, True)), ((None,),),
    ((10 ** 60,),), ((1, 0), (0, -10 ** 60)), (("1",),), (((1,),),), ((0,) * 9,) * 9, ((1,) * 8,) * 7)
SMALL = [((a, b), (c, d)) for a, b, c, d in product((-2, -1, 0, 1, 2), repeat=4)]


def drawn_tables(size, many, most=3):
    """Drawn square tables."""
    drawing = random.Random(size)
    return [tuple(tuple(drawing.randint(-most, most) for _ in range(size)) for _ in range(size)) for _ in range(many)]


def drawn_units(size, many):
    """Drawn tables with the determinant 1 or -1."""
    drawing = random.Random(100 + size)
    found = []
    for _ in range(many):
        table = [list(line) for line in plain_unit(size)]
        for _ in range(3 * size):
            one, other = drawing.randrange(size), drawing.randrange(size)
            factor = drawing.choice((-1, 1, 2))
            if one != other:
                table[one] = [item + factor * more for item, more in zip(table[one], table[other])]
            else:
                table[one] = [-item for item in table[one]]
        found.append(tuple(tuple(line) for line in table))
    return found


def symmetric(table):
    """The sum of a table and the exchanged one."""
    return tuple(tuple(a + b for a, b in zip(line, other)) for line, other in zip(table, exchanged(table)))


def value_at(table, column):
    """The value, by the definition."""
    size = len(table)
    return sum(table[i][j] * column[i] * column[j] for i in range(size) for j in range(size))


def plain_signs(table):
    """The signs, by fractions: eigenvalues are counted by the changes of signs of the characteristic polynomial."""
    size = len(table)
    items = []
    power = plain_unit(size)
    left = [[Fraction(item) for item in line] for line in power]
    coefficients = [Fraction(1)]
    for k in range(1, size + 1):
        left = multiplied(table, left)
        coefficient = -sum(left[i][i] for i in range(size)) / k
        coefficients.append(coefficient)
        left = [[left[i][j] + (coefficient if i == j else 0) for j in range(size)] for i in range(size)]
    items = [item for item in coefficients if item != 0]
    above = sum(1 for one, other in zip(items, items[1:]) if one * other < 0)
    zeros = 0
    while zeros < size and coefficients[size - zeros] == 0:
        zeros += 1
    return above, size - zeros - above, zeros


class Back(Case):

    def test_back_tables(self):
        for size in range(1, 9):
            for table in drawn_units(size, 12):
                found = back_table(table)
                self.same(multiplied(table, found), plain_unit(size))
                self.same(multiplied(found, table), plain_unit(size))
        for row in FIT:
            for table in companions(row):
                self.same(multiplied(back_table(table), table), plain_unit(len(table)))

    def test_small_tables(self):
        for table in SMALL + drawn_tables(3, 200, 1):
            if abs(plain_determinant(table)) == 1:
                self.same(multiplied(table, back_table(table)), plain_unit(len(table)))
            else:
                self.refused(InvalidOperation, back_table, table)

    def test_long_integers(self):
        self.same(back_table(((1, LONG), (0, 1))), ((1, -LONG), (0, 1)))
        self.same(back_table(((LONG, LONG - 1), (1, 1))), ((1, 1 - LONG), (-1, LONG)))
        self.refused(InvalidOperation, back_table, ((LONG,),))
        self.refused(InvalidOperation, back_table, ((0,),))
        self.refused(InvalidOperation, back_table, ((2, 0, 0), (0, 1, 0), (0, 0, 1)))

    def test_it_refuses(self):
        self.refused_each(InvalidTable, back_table, NO_TABLES)


class Keep(Case):

    def test_kept(self):
        for one in SMALL[::7]:
            for other in SMALL[::3]:
                wanted = multiplied(multiplied(exchanged(one), other), one) == other
                self.assertIs(does_keep(one, other), wanted)
        for row in FIT:
            for table in companions(row):
                self.assertIs(does_keep(table, kept_table(row)), True)
        self.assertIs(does_keep(((1,),), ((LONG,),)), True)
        self.assertIs(does_keep(((0, 1), (1, 0)), ((LONG, 1), (1, LONG))), True)
        self.assertIs(does_keep(((0, 1), (1, 0)), ((LONG, 1), (1, LONG - 1))), False)
        self.assertIs(does_keep(((0, 1), (1, 0)), ((1, 2), (3, 1))), False)

    def test_it_refuses(self):
        self.refused_each(InvalidTable, does_keep, NO_TABLES, ((1,),))
        self.refused_each(InvalidTable, lambda other: does_keep(((1,),), other), NO_TABLES)
        self.refused(InvalidOperation, does_keep, ((1,),), ((1, 0), (0, 1)))
        self.refused(InvalidOperation, does_keep, ((1, 0), (0, 1)), ((1,),))
        self.refused(InvalidTable, does_keep, ((1,),), ((1, 0), (0,)))


class Signs(Case):

    def test_signs(self):
        for size in range(1, 9):
            for table in drawn_tables(size, 25, 1) + drawn_tables(size, 25, 3):
                given = symmetric(table)
                found = signs_of(given)
                self.same(found, plain_signs(given))
                self.assertIs(is_definite(given), size in found[:2])
        for a, b, c in product(range(-3, 4), repeat=3):
            self.same(signs_of(((a, b), (b, c))), plain_signs(((a, b), (b, c))))

    def test_signs_of_changed_sums(self):
        for size in range(2, 8):
            for above in range(size + 1):
                for missing in range(size - above + 1):
                    table = tuple(tuple((1 if i < above else 0 if i < above + missing else -1) if i == j else 0
                                        for j in range(size)) for i in range(size))
                    for letters in drawn_units(size, 2):
                        given = multiplied(multiplied(exchanged(letters), table), letters)
                        self.same(signs_of(given), (above, size - above - missing, missing))

    def test_signs_without_squares(self):
        self.same([signs_of(((0, 1), (1, 0))), signs_of(((0, 0), (0, 0))), signs_of(((0, -5), (-5, 0)))],
                  [(1, 1, 0), (0, 0, 2), (1, 1, 0)])
        for size in range(2, 9):
            for table in drawn_tables(size, 15):
                given = tuple(tuple(0 if i == j else item for j, item in enumerate(line))
                              for i, line in enumerate(symmetric(table)))
                self.same(signs_of(given), plain_signs(given))
        full = tuple(tuple(0 if i == j else 1 for j in range(8)) for i in range(8))
        self.same(signs_of(full), (1, 7, 0))

    def test_long_integers(self):
        big = tuple(tuple(LONG - abs(i - j) for j in range(8)) for i in range(8))
        self.same(signs_of(big), plain_signs(big))
        self.same(signs_of(((LONG, 0), (0, -LONG))), (1, 1, 0))

    def test_definite_tables(self):
        self.judges(is_definite, (((1,),), ((-1,),), ((2, 1), (1, 2)), ((-2, 1), (1, -2)), ((LONG,),)),
                    (((0,),), ((1, 1), (1, 1)), ((1, 2), (2, 1)), ((0, 0), (0, 0)), ((-1, 0), (0, -0)),
                     ((-1, 0), (0, 1)), ((-1, 0, 0), (0, -1, 0), (0, 0, 1))))
        self.assertGreater(plain_determinant(((-1, 0, 0), (0, -1, 0), (0, 0, 1))), 0)

    def test_they_refuse(self):
        for action in (signs_of, is_definite):
            self.refused_each(InvalidTable, action, NO_TABLES)
            self.refused_each(InvalidOperation, action,
                              (((0, 1), (-1, 0)), ((1, 2), (3, 4)), ((1, 0, 1), (0, 1, 0), (0, 0, 1))))

    def test_signs_of_kept_tables(self):
        for row in FIT:
            if row.height % 2 == 1:
                above, below, missing = signs_of(kept_table(row))
                self.same((missing, abs(above - below)), (0, sign_difference(row)))
        self.assertFalse(is_whole(TURNED))
        self.assertTrue(is_definite(kept_table(TURNED)))


class Low(Case):

    def test_low_rows(self):
        for row in FIT:
            table = kept_table(row)
            found = low_row(row)
            if row.height % 2 == 1 and is_definite(table):
                self.assertIsNone(found)
            else:
                self.same((type(found), {type(item) for item in found}, len(found)), (tuple, {int}, len(table)))
                self.assertTrue(any(found))
                self.assertLessEqual(value_at(table, found), 0)
                self.assertLess(max(abs(item) for item in found), 10 ** 400)
                self.assertIs(is_low_row(row, found), True)

    def test_judged_rows(self):
        for row in (MIDDLE, BROKEN, Quotient((3,), (2, 1)), Quotient((4,), (1, 1, 1, 1)), Quotient((4, 1), (3, 2)),
                    Quotient((6,), (2, 2, 2)), Quotient((3,), (1, 1, 1))):
            table = kept_table(row)
            for value in product(range(-2, 3), repeat=len(table)):
                wanted = any(value) and value_at(table, value) <= 0
                self.assertIs(is_low_row(row, value), wanted)
                self.assertIs(is_low_row(row, tuple(item * 10 ** 400 for item in value)), wanted)
                self.assertIs(is_low_row(row, list(value)), False)
                self.assertIs(is_low_row(row, value + (0,)), False)
                self.assertIs(is_low_row(row, value[1:]), False)
        self.assertIs(is_low_row(BROKEN, (True, 0)), False)
        self.assertIs(is_low_row(BROKEN, (1, False)), False)
        self.assertIs(is_low_row(BROKEN, (1, 0)), True)

    def test_judged_others(self):
        for row in FIT[::5]:
            for value in WRONG + OBJECTS + (1, ((1,),), "11"):
                if degree_of(row) > 1 or value != (1,):
                    self.assertIs(is_low_row(row, value), False)

    def test_they_refuse(self):
        self.refused_each(InvalidRow, low_row, NO_ROWS)
        self.refused_each(InvalidRow, is_low_row, NO_ROWS, (1, 0))
        unfit = (Quotient((2,), (1,)), Quotient((), (1,)), GREAT, Quotient((10,), (9, 1)), Quotient((3,), (2, 1, 1)))
        self.refused_each(InvalidOperation, low_row, unfit)
        self.refused_each(InvalidOperation, is_low_row, unfit, None)
