"""[11.1] to [11.5] and wholerises.kept.companions."""

from itertools import product

from wholerises.circle.products import degree_of, products
from wholerises.errors import InvalidOperation, InvalidPolynomial, InvalidRow
from wholerises.kept import companions as module
from wholerises.kept.companions import (
    companion, companions, is_kept, kept_line, kept_table, sign_difference, step_table)
from wholerises.row.quotients import Quotient
from tests.support import (
    BROKEN, CHEBYSHEV, FIVE, GREAT, GREATEST, MIDDLE, NO_ROWS, OBJECTS, TURNED, WRONG, Case, balanced_rows, exchanged,
    fraction, multiplied, plain_determinant, plain_unit)

FIT = [row for degree, by in ((1, 1), (2, 1), (3, 1), (4, 9), (5, 11), (6, 97), (7, 97), (8, 499))
       for row in balanced_rows(degree)[::by]] + [CHEBYSHEV, FIVE, Quotient((8,), (7, 1)), Quotient((9,), (8, 1))]
UNFIT = (Quotient((2,), (1,)), Quotient((), (1,)), Quotient((1,), ()), Quotient((3,), (1, 1, 2)), GREAT, GREATEST,
         Quotient((10,), (9, 1)), Quotient((4,), (3,)), Quotient((16,), (15, 1)))


def plain_companion(polynomial):
    """The companion, by the columns to which it leads the unit columns."""
    size = len(polynomial) - 1
    columns = [[1 if row == column + 1 else 0 for row in range(size)] for column in range(size - 1)]
    columns.append([-item for item in polynomial[:-1]])
    return exchanged(columns)


def does_keep_plainly(table, other):
    """Whether M' H M is H."""
    return multiplied(multiplied(exchanged(table), other), table) == tuple(tuple(line) for line in other)


class Companions(Case):

    def test_constant(self):
        self.same(module.MOST_DEGREE, 8)

    def test_companion(self):
        for polynomial in ((0, 1), (5, 1), (-3, 1), (1, 2, 1), (7, 0, -5, 1), (10 ** 59, 2, 3, 4, 5, 6, 7, 8, 1)):
            found = companion(polynomial)
            self.same(found, plain_companion(polynomial))
            size = len(polynomial) - 1
            self.same(plain_determinant(found), (-1) ** size * polynomial[0])

    def test_companion_refuses(self):
        self.refused_each(InvalidPolynomial, companion, WRONG + OBJECTS + ((0, 0), (1, 0), (1,) * 42, (True, 1)))
        self.refused_each(InvalidOperation, companion,
                          ((0,), (1,), (5,), (1, 2), (1, -1), (1, 1, 0, 3), (1,) * 10, (0,) * 40 + (1,), (1,) * 8 + (2,)))
        self.same(len(companion((1,) * 9)), 8)

    def test_companions_and_steps(self):
        for row in FIT:
            one, other = products(row)
            found = companions(row)
            self.same(found, (plain_companion(one), plain_companion(other)))
            step = step_table(row)
            self.same(multiplied(found[0], step), found[1])
            size = len(step)
            self.same([line[:-1] for line in step], [line[:-1] for line in plain_unit(size)])
            self.same(plain_determinant(step), -1 if row.height % 2 == 1 else 1)
            if row.height % 2 == 1:
                self.same(multiplied(step, step), plain_unit(size))
            else:
                less = [[item - unit for item, unit in zip(line, units)] for line, units in zip(step, plain_unit(size))]
                self.same(multiplied(less, less), ((0,) * size,) * size)
            self.assertEqual({abs(plain_determinant(table)) for table in found}, {1})

    def test_rows_that_are_not_fit(self):
        for action in (companions, step_table, kept_line, kept_table, sign_difference):
            self.refused_each(InvalidRow, action, NO_ROWS)
            self.refused_each(InvalidOperation, action, UNFIT)
        self.refused_each(InvalidRow, is_kept, NO_ROWS, ((1,),))
        self.refused_each(InvalidOperation, is_kept, UNFIT, ((1,),))
        self.same([degree_of(row) for row in (CHEBYSHEV, Quotient((9,), (8, 1)), Quotient((10,), (9, 1)))], [8, 8, 9])


class Kept(Case):

    def test_kept_tables(self):
        for row in FIT:
            table = kept_table(row)
            line = kept_line(row)
            size = degree_of(row)
            sign = 1 if row.height % 2 == 1 else -1
            self.same(table, tuple(tuple(line[j - i] if j >= i else sign * line[i - j] for j in range(size))
                                   for i in range(size)))
            self.same(table[0], line)
            self.assertEqual(exchanged(table), tuple(tuple(sign * item for item in told) for told in table))
            for told in companions(row):
                self.assertTrue(does_keep_plainly(told, table))
            self.assertGreater([item for item in line if item][0], 0)
            self.assertEqual([d for d in range(2, 60) if not any(item % d for item in line)], [])

    def test_no_other_table_is_kept(self):
        for row in (MIDDLE, TURNED, BROKEN, Quotient((3,), (2, 1)), Quotient((4,), (2, 2)), Quotient((6, 1), (3, 2, 2))):
            size = degree_of(row)
            table = kept_table(row)
            for items in product(range(-2, 3), repeat=size * size):
                value = tuple(tuple(items[size * i:size * i + size]) for i in range(size))
                wanted = any(items) and all(does_keep_plainly(told, value) for told in companions(row))
                self.assertIs(is_kept(row, value), wanted)
                if wanted:
                    lead = [item for item in value[0] if item][0]
                    least = [item for item in table[0] if item][0]
                    self.assertEqual(tuple(tuple(item * least for item in line) for line in value),
                                     tuple(tuple(item * lead for item in line) for line in table))

    def test_judged_tables(self):
        for row in FIT:
            table = kept_table(row)
            for factor in (1, -1, 2, -7, 10 ** 400, 10 ** 400 + 1):
                self.assertIs(is_kept(row, tuple(tuple(item * factor for item in line) for line in table)), True)
            size = len(table)
            wrong = [((0,) * size,) * size, table[:-1], table + table[:1], list(table), tuple(list(line) for line in table),
                     tuple(line[:-1] for line in table), tuple(line + (0,) for line in table), (table,),
                     tuple(tuple(bool(item) for item in line) for line in table), table[0]]
            if size > 1:
                for i, j in ((0, 0), (0, 1), (size - 1, size - 1), (size - 1, 0)):
                    for more in (1, -1, 10 ** 80):
                        wrong.append(tuple(tuple(item + more if (a, b) == (i, j) else item for b, item in enumerate(line))
                                           for a, line in enumerate(table)))
            for value in list(WRONG) + list(OBJECTS) + wrong:
                self.assertIs(is_kept(row, value), False)
        self.assertIs(is_kept(MIDDLE, ((5,),)), True)
        self.assertIs(is_kept(MIDDLE, ((True,),)), False)

    def test_sign_differences(self):
        for row in FIT:
            if row.height % 2 == 0:
                self.refused(InvalidOperation, sign_difference, row)
                continue
            tops, bottoms = plain_turns(row)
            wanted = abs(sum((-1) ** (j + 1 + sum(1 for bottom in bottoms if bottom < top))
                             for j, top in enumerate(tops)))
            self.same(sign_difference(row), wanted)

    def test_a_kept_table_of_a_whole_row_need_not_be_symmetric(self):
        self.same(kept_line(FIVE), (0, 1, 1, -1))
        self.same(kept_table(FIVE)[1][0], -1)


def plain_turns(row):
    """The places of both products as fractions, by the roots of x ** a - 1 that are left."""
    tops = [fraction((k, top)) for top in row.tops for k in range(1, top + 1)]
    bottoms = [fraction((k, bottom)) for bottom in row.bottoms for k in range(1, bottom + 1)]
    for place in list(tops):
        if place in bottoms:
            tops.remove(place)
            bottoms.remove(place)
    return sorted(tops), sorted(bottoms)
