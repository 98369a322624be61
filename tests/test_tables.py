"""[2.3] to [2.5] and the functions of wholerises.base.tables."""

from fractions import Fraction
from itertools import permutations, product
from math import gcd

from wholerises.base import tables
from wholerises.base.tables import (
    determinant, is_alternating, is_symmetric, is_table, kernel, minors, rank, table_power, table_product,
    turned_over, unit_table)
from wholerises.errors import InvalidNumber, InvalidOperation, InvalidTable
from tests.support import LONG, NO_INTEGERS, OBJECTS, WRONG, Case

NO_TABLES = WRONG + OBJECTS + (
    1, (1, 2), (((1,),),), ((),), ((1,), ()), ((), ()), ((1, 2), (3,)), ((1,), (2, 3)), ((1,),) * 13, ((1,) * 13,),
    [(1,)], ([1],), ((True,),), ((1, False),), ((None,),), (("1",),), ((10 ** 60,),), ((1, 2), (3, -10 ** 60)))
SMALL = [tuple(given[k * 2:k * 2 + 2] for k in range(2)) for given in product((-2, -1, 0, 1, 3), repeat=4)]
WIDE = tuple(tuple((row * 7 + column * column * 3 + row * column) % 11 - 5 for column in range(12))
             for row in range(12))
LONGEST = tuple(tuple(LONG - (row + 1) ** (column % 9) for column in range(12)) for row in range(12))
OBLONG = (((1, 2, 3),), ((1,), (2,), (3,)), ((0, 0, 0, 0),), ((0,), (0,)), ((2, 4), (3, 6), (5, 10)), WIDE[:5],
          ((0, 2, -4, 6), (0, 3, -6, 9)), ((0, 0, 3, 1), (0, 0, 2, 5)), ((1, 2, 3, 4), (2, 4, 6, 9), (1, 2, 3, 5)),
          ((-6, 10, 15),), ((0, -1), (0, 5)), ((4, 6, 0), (0, 0, 9)), LONGEST[:4])
SQUARES = (((0,),), ((-7,),), ((1, 2, 3), (4, 5, 6), (7, 8, 9)), ((0, 1, 2), (3, 0, 4), (5, 6, 0)), WIDE, LONGEST,
           ((0, 0, 1), (0, 1, 0), (1, 0, 0)), ((0, 2, 0), (0, 0, 3), (5, 0, 0)),
           ((1, 1, 2, 0), (1, 1, 3, 1), (2, 1, 0, 1), (0, 4, 1, 1)))


def plain_product(one, other):
    """The product of two matrices."""
    return tuple(tuple(sum(line[k] * other[k][column] for k in range(len(other))) for column in range(len(other[0])))
                 for line in one)


def plain_determinant(table):
    """The determinant by fractions."""
    left, value = [[Fraction(item) for item in line] for line in table], Fraction(1)
    for at in range(len(left)):
        found = [row for row in range(at, len(left)) if left[row][at]]
        if not found:
            return 0
        if found[0] != at:
            left[at], left[found[0]], value = left[found[0]], left[at], -value
        value *= left[at][at]
        for row in range(at + 1, len(left)):
            factor = left[row][at] / left[at][at]
            left[row] = [item - factor * pivot for item, pivot in zip(left[row], left[at])]
    return value.numerator


def plain_rank(table):
    """The rank by fractions."""
    left, found = [[Fraction(item) for item in line] for line in table], 0
    for at in range(len(table[0])):
        rows = [row for row in range(found, len(left)) if left[row][at]]
        if rows:
            left[found], left[rows[0]] = left[rows[0]], left[found]
            for row in range(found + 1, len(left)):
                factor = left[row][at] / left[found][at]
                left[row] = [item - factor * pivot for item, pivot in zip(left[row], left[found])]
            found += 1
    return found


def lead(line):
    """The index of the first integer other than 0."""
    return [bool(item) for item in line].index(True)


class Making(Case):

    def test_constants(self):
        self.same((tables.MAX_SIZE, tables.MAX_EXPONENT), (12, 60))

    def test_is_table(self):
        self.judges(is_table, ((((0,),),) + OBLONG + SQUARES + (((1,),) * 12, ((1,) * 12,), ((-LONG,),))), NO_TABLES)

    def test_unit_table(self):
        self.same([unit_table(1), unit_table(2)], [((1,),), ((1, 0), (0, 1))])
        for size in range(1, 13):
            self.same(unit_table(size), tuple(tuple(int(k == i) for k in range(size)) for i in range(size)))
        self.refused_each(InvalidNumber, unit_table, NO_INTEGERS + (0, -1, 13, LONG))

    def test_turned_over(self):
        self.same(turned_over(((1, 2, 3), (4, 5, 6))), ((1, 4), (2, 5), (3, 6)))
        self.same(turned_over(((1, 2),)), ((1,), (2,)))
        for table in OBLONG + SQUARES:
            self.same(turned_over(turned_over(table)), table)

    def test_one_table_is_refused(self):
        for action in (turned_over, rank, kernel, determinant, minors, is_symmetric, is_alternating):
            self.refused_each(InvalidTable, action, NO_TABLES)

    def test_tables_that_are_not_square_are_refused(self):
        for action in (determinant, minors, is_symmetric, is_alternating, lambda table: table_power(table, 1)):
            self.refused_each(InvalidOperation, action, (((1, 2),), ((1,), (2,)), WIDE[:11]))


class Products(Case):

    def test_products(self):
        for one in SMALL[::7]:
            for other in SMALL[::11]:
                self.same(table_product(one, other), plain_product(one, other))
        self.same(table_product(((1, 2, 3),), ((4,), (5,), (6,))), ((32,),))
        self.same(table_product(((1,), (2,)), ((3, 4, 5),)), ((3, 4, 5), (6, 8, 10)))
        self.same(table_product(LONGEST, LONGEST), plain_product(LONGEST, LONGEST))

    def test_products_refuse(self):
        self.refused_each(InvalidTable, table_product, NO_TABLES, ((1,),))
        self.refused_each(InvalidTable, lambda other: table_product(((1,),), other), NO_TABLES)
        self.refused(InvalidOperation, table_product, ((1, 2),), ((1, 2),))
        self.refused(InvalidOperation, table_product, ((1,), (2,)), ((1,), (2,)))
        self.refused(InvalidTable, table_product, ((1, 2),), ((1, 2), (1,)))

    def test_powers(self):
        for table in SMALL[::13] + [((3,),), ((0,),)]:
            wanted = unit_table(len(table))
            for exponent in range(61):
                if exponent in (0, 1, 2, 3, 59, 60):
                    self.same(table_power(table, exponent), wanted)
                wanted = plain_product(wanted, table)
        self.same(table_power(((LONG,),), 60), ((LONG ** 60,),))
        self.same(table_power(LONGEST, 60), plain_product(table_power(LONGEST, 59), LONGEST))

    def test_powers_refuse(self):
        self.refused_each(InvalidTable, table_power, NO_TABLES, 1)
        self.refused_each(InvalidNumber, lambda exponent: table_power(((1,),), exponent), NO_INTEGERS + (-1, 61, LONG))
        self.refused(InvalidNumber(61), table_power, ((1, 2),), 61)
        self.refused(InvalidTable, table_power, ((True,),), 61)


class Kernels(Case):

    def check_kernel(self, table):
        """The kernel is an echelon of rows that the table leads to 0, as many as there must be."""
        found = kernel(table)
        self.assertIs(type(found), tuple)
        leads = [lead(line) for line in found]
        self.assertEqual(leads, sorted(set(leads)))
        for at, line in enumerate(found):
            self.assertEqual((type(line), len(line), gcd(*line)), (tuple, len(table[0]), 1))
            self.assertGreater(line[leads[at]], 0)
            self.assertFalse([other for k, other in enumerate(leads) if k != at and line[other]])
            self.assertFalse([row for row in table if sum(x * y for x, y in zip(row, line))])
        self.assertEqual(len(found), len(table[0]) - plain_rank(table))
        self.same(rank(table), plain_rank(table))

    def test_kernels(self):
        for table in list(OBLONG + SQUARES) + SMALL:
            self.check_kernel(table)

    def test_small_ones_of_three_columns(self):
        for given in product((-1, 0, 2), repeat=6):
            self.check_kernel((given[:3], given[3:]))

    def test_some(self):
        self.same(kernel(((0, 0, 0),)), ((1, 0, 0), (0, 1, 0), (0, 0, 1)))
        self.same(kernel(((2, 3),)), ((3, -2),))
        self.same(kernel(((6, 10, 15),)), ((5, 0, -2), (0, 3, -2)))
        self.same(kernel(((1, 0), (0, 1))), ())
        self.same([rank(((0,),)), rank(((5,),)), rank(WIDE[:5])], [0, 1, plain_rank(WIDE[:5])])


class Determinants(Case):

    def test_determinants(self):
        for table in list(SQUARES) + SMALL:
            self.same(determinant(table), plain_determinant(table))
            self.same(minors(table), tuple(plain_determinant([line[:k] for line in table[:k]])
                                           for k in range(1, len(table) + 1)))

    def test_permutations(self):
        for order in permutations(range(4)):
            odd = sum(1 for k in range(4) for i in range(k) if order[i] > order[k]) % 2
            self.same(determinant(tuple(tuple(int(k == at) for k in range(4)) for at in order)), -1 if odd else 1)

    def test_no_row_is_a_multiple_of_another_one(self):
        self.same(determinant(((1, 2, 3), (4, 5, 6), (7, 8, 9))), 0)

    def test_symmetric_and_alternating(self):
        for table in SMALL:
            self.same(is_symmetric(table), table[0][1] == table[1][0])
            self.same(is_alternating(table), table[0][0] == table[1][1] == 0 and table[0][1] == -table[1][0])
        self.same([is_symmetric(((5,),)), is_alternating(((5,),)), is_alternating(((0,),)), is_symmetric(WIDE)],
                  [True, False, True, False])
        self.same([is_symmetric(((1, 2, 3), (2, 4, 5), (3, 5, 6))), is_symmetric(((1, 2, 3), (2, 4, 5), (3, 6, 6)))],
                  [True, False])
        self.same(is_alternating(((0, 2, -3), (-2, 0, 5), (3, -5, 0))), True)
