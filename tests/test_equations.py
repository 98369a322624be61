"""[13.1] to [13.7] and wholerises.equation.equations."""

import random
from fractions import Fraction
from math import comb, gcd
from time import perf_counter

from wholerises.circle.products import degree_of, parts, products, products_in
from wholerises.equation import equations as module
from wholerises.equation.equations import (
    defect, each_equation, equation_of, is_equation, least_equation, root_of, series, sheets)
from wholerises.errors import InvalidEquation, InvalidNumber, InvalidOperation, InvalidRow, TooMany
from wholerises.family.families import apart_rows
from wholerises.group.groups import orbit
from wholerises.kept.companions import orbit_within
from wholerises.row.quotients import Quotient
from wholerises.stair.wholes import is_whole
from tests.support import (
    BROKEN, CHEBYSHEV, FIVE, GREATEST, LONG, MIDDLE, NO_INTEGERS, NO_ROWS, OBJECTS, ROWS, SHORT, TURNED, WRONG, Case,
    balanced_rows, family_rows, fraction, numbers_of, pair)

SQUARE = {(0, 0): 1, (0, 2): -1, (1, 2): 4}
DOUBLE, LAST, TWO = Quotient((4,), (2, 2)), Quotient((6, 1), (3, 2, 2)), Quotient((6, 2), (4, 3, 1))
EQUATED = (MIDDLE, Quotient((3,), (2, 1)), Quotient((4,), (3, 1)), Quotient((5,), (4, 1)), Quotient((6,), (5, 1)), DOUBLE,
           LAST, TWO)
UNEQUATED = (CHEBYSHEV, FIVE, BROKEN, TURNED, SHORT, Quotient((2,), (1,)), Quotient((), (1,)), Quotient((5,), (3, 2)),
             Quotient((7,), (6, 1)), Quotient((2, 2), (1,) * 4), Quotient((4,), (1, 1, 1, 1)), Quotient((6,), (3, 3)),
             MIDDLE * 7, Quotient((9, 5), (7, 3, 3, 1)), GREATEST)
NO_EQUATIONS = tuple(value for value in WRONG + OBJECTS) + (
    1, (((0, 0), 1),), {(0, 0): 0}, {(0, 0): 0, (1, 1): 0}, {(4, 0): 1}, {(0, 7): 1}, {(-1, 0): 1}, {(0, -1): 1},
    {(0, 0, 0): 1}, {(0,): 1}, {0: 1}, {"00": 1}, {(True, 0): 1}, {(0, True): 1}, {(0, 0): True}, {(0, 0): None},
    {(0, 0): "1"}, {(0, 0): 1, (0, 1): False}, {(0, 0): (1, 2)}, {(0, None): 1}, {((0, 0), 0): 1}, {(0, 0): 1, 1: 1},
    {(0, 0): 1, (3, 7): 0}, {(0, 10 ** 60): 1})
LONG_EQUATIONS = ({(0, 0): 10 ** 60}, {(0, 0): 1, (0, 1): -10 ** 60})


def plain_defect(row, equation, many):
    """The first coefficients of the defect, by the definition, with fractions."""
    numbers = [numbers_of(row, number) for number in range(many)]
    total = [Fraction(0)] * many
    for (i, j), item in equation.items():
        power = [Fraction(item)] + [Fraction(0)] * (many - 1)
        for _ in range(j):
            power = [sum(power[k] * numbers[n - k] for k in range(n + 1)) for n in range(many)]
        total = [one + (power[n - i] if n >= i else 0) for n, one in enumerate(total)]
    return total


def times(equation, factor):
    """The product of two polynomials in two letters."""
    made = {}
    for (i, j), item in equation.items():
        for (k, m), other in factor.items():
            made[(i + k, j + m)] = made.get((i + k, j + m), 0) + item * other
    return made


def shaped(t):
    """S of [13.5], multiplied out."""
    made = {(0, 0): -1, (0, 1): 1}
    for _ in range(t - 1):
        made = times(made, {(0, 0): 1, (0, 1): t - 1})
    made[(1, t)] = made.get((1, t), 0) - t ** t
    return made


class Series(Case):

    def test_constants(self):
        self.same((module.MOST_Z, module.MOST_Y, module.MOST_SHEETS), (3, 6, 2000))

    def test_series(self):
        for row in ROWS:
            for many in (1, 2, 3, 1 + min(59, 600 // row.greatest)):
                self.same(series(row, many), tuple(pair(numbers_of(row, number)) for number in range(many)))

    def test_series_refuse(self):
        self.refused_each(InvalidRow, series, NO_ROWS, 1)
        self.refused_each(InvalidNumber, lambda many: series(MIDDLE, many), NO_INTEGERS + (0, -1, 61, LONG))
        self.refused(TooMany(600), series, CHEBYSHEV, 22)
        self.same(len(series(CHEBYSHEV, 21)), 21)
        self.refused(InvalidNumber(61), series, CHEBYSHEV, 61)
        self.refused(InvalidRow, series, None, 0)
        self.same(len(series(Quotient((10,), (9, 1)), 60)), 60)
        self.refused(TooMany(600), series, Quotient((11,), (10, 1)), 60)


class Sheets(Case):

    def test_sheets(self):
        self.same([sheets(row) for row in EQUATED], [2, 3, 4, 5, 6, 4, 6, 6])
        self.same([sheets(Quotient((a + b,), (a, b))) for a in range(1, 6) for b in range(1, 6) if gcd(a, b) == 1],
                  [comb(a + b, a) for a in range(1, 6) for b in range(1, 6) if gcd(a, b) == 1])
        self.same([sheets(MIDDLE * k) for k in range(1, 11)], [2 ** k for k in range(1, 11)])
        self.same(sheets(Quotient((42,), (41, 1))), 42)

    def test_rows_that_are_not_algebraic(self):
        for row in [row for row in ROWS if not (row.is_balanced and row.height == 1 and is_whole(row))]:
            self.same(sheets(row), 0)
        for row in (FIVE, TURNED, BROKEN, Quotient((2,), (1,)), Quotient((1,), ()), Quotient((3,), (1, 1)), SHORT,
                    Quotient((4,), (2, 1)), Quotient((5, 3), (4, 2, 2))):
            self.assertFalse(row.is_balanced and row.height == 1 and is_whole(row))
            self.same(sheets(row), 0)

    def test_sheets_are_an_orbit(self):
        for degree in (1, 2, 3, 4):
            for row in balanced_rows(degree):
                if row.height == 1 and is_whole(row):
                    self.same(sheets(row), len(orbit(row, fixed_column(products(row)[1]))))

    def test_too_many_sheets(self):
        for row in (CHEBYSHEV, MIDDLE * 11, MIDDLE * 30, Quotient((14,), (5, 9))):
            self.refused(TooMany(2000), sheets, row)
        self.same(sheets(Quotient((13,), (6, 7))), 1716)
        self.same(sheets(Quotient((14,), (11, 3))), 364)
        self.refused_each(InvalidRow, sheets, NO_ROWS)


def fixed_column(polynomial):
    """A column that the companion of Q keeps: Q without its factor x - 1, by division from the end."""
    column = [0] * (len(polynomial) - 1)
    carry = 0
    for index in reversed(range(1, len(polynomial))):
        carry += polynomial[index]
        column[index - 1] = carry
    return tuple(column)


class Least(Case):

    def test_least_equations_of_the_first_family(self):
        for t in range(2, 7):
            row = Quotient((t,), (t - 1, 1))
            told = shaped(t)
            sign = 1 if told[(1, t)] > 0 else -1
            self.same(least_equation(row), {key: sign * told[key] for key in sorted(told) if told[key] != 0})

    def test_least_equations(self):
        for row in EQUATED:
            found = least_equation(row)
            self.same(list(found), sorted(found))
            self.assertEqual(gcd(*found.values()), 1)
            self.assertNotIn(0, found.values())
            top = max((j, i) for i, j in found)
            self.same(top[0], sheets(row))
            self.assertGreater(found[top[::-1]], 0)
            self.assertFalse(any(plain_defect(row, found, 45)))
            self.assertIs(is_equation(row, found), True)
            self.assertIs(is_equation(row, equation_of(row)), True)

    def test_no_equation_with_a_lesser_degree(self):
        for row in EQUATED:
            found = least_equation(row)
            most = max(i for i, j in found)
            leaves = sheets(row)
            for degree_z, degree_y in ((most - 1, leaves), (3, leaves - 1)):
                pairs = [(i, j) for i in range(degree_z + 1) for j in range(degree_y + 1)]
                columns = [[int(item) for item in plain_defect(row, {told: 1}, len(pairs) + 4)] for told in pairs]
                self.assertEqual(plain_rank(columns), len(pairs))

    def test_their_defects(self):
        for row in EQUATED:
            found = least_equation(row)
            leaves = sheets(row)
            told = leaves * (2 * max(i for i, j in found) + max(j for i, j in found)) // 2 + 1
            self.assertFalse(any(plain_defect(row, found, told + 12)))
            self.same(defect(row, found, told + 12), ((0, 1),) * (told + 12))

    def test_they_are_found_by_the_definition(self):
        for row in EQUATED:
            found = least_equation(row)
            most, leaves = max(i for i, j in found), sheets(row)
            (made,) = relations(row, most, leaves, leaves * (2 * most + leaves) // 2 + 1)
            divisor = gcd(*made.values()) * (1 if made[max(made, key=lambda told: told[::-1])] > 0 else -1)
            self.same({key: made[key] // divisor for key in sorted(made)}, found)

    def test_all_rows_that_the_bounds_allow(self):
        # By [0.13] and [18.5] these are all algebraic rows within the bounds but those of great degrees in no family;
        # the sheets are more than the degree, as the columns of the orbit make all others and add up to 0.
        rows = family_rows() + [row for degree in (4, 6, 7, 8) for row in apart_rows(degree)]
        self.assertGreater(len(rows), 800)
        many = 0
        for row in rows:
            told = products_in(parts(row))
            few = orbit_within(fixed_column(told[1]), told, 6)
            self.assertIs(least_equation(row) is not None, few is not None, str(row))
            self.assertIs(equation_of(row) is not None, few is not None)
            self.same(len(list(each_equation(row))), 0 if few is None else 7 - len(few))
            many += few is not None
        self.same(many, len(EQUATED))

    def test_they_are_found_fast(self):
        for row in EQUATED + UNEQUATED:
            for action in (least_equation, equation_of, lambda row: list(each_equation(row))):
                begin = perf_counter()
                for _ in range(200):
                    action(row)
                self.assertLess(perf_counter() - begin, 1)

    def test_some(self):
        self.same(least_equation(DOUBLE), {(0, 2): -1, (0, 4): 1, (1, 0): 4, (1, 2): 16, (1, 4): -32, (2, 4): 256})
        self.same(max(i for i, j in least_equation(LAST)), 3)

    def test_rows_without_equations(self):
        for row in UNEQUATED:
            self.assertIsNone(least_equation(row))
            self.assertIsNone(equation_of(row))
            self.same(list(each_equation(row)), [])
            for equation in (SQUARE, {(0, 0): 1}, {(3, 6): 1}, shaped(5)):
                self.assertIs(is_equation(row, equation), False)

    def test_all_rows_of_small_degrees(self):
        for degree in (1, 2, 3, 4, 5):
            for row in balanced_rows(degree)[::1 if degree < 4 else 5]:
                self.assertIs(least_equation(row) is not None, row in EQUATED)

    def test_each_equation(self):
        for row in EQUATED:
            least = least_equation(row)
            wanted = [{(i, j + k): item for (i, j), item in least.items()} for k in range(7 - sheets(row))]
            self.same(list(each_equation(row)), wanted)
            for equation in wanted:
                self.assertIs(is_equation(row, equation), True)

    def test_a_new_dict_each_time(self):
        least_equation(MIDDLE)[(0, 0)] = 7
        self.same(least_equation(MIDDLE), SQUARE)
        self.same(SQUARE, {(0, 0): 1, (0, 2): -1, (1, 2): 4})

    def test_they_refuse(self):
        for action in (least_equation, equation_of):
            self.refused_each(InvalidRow, action, NO_ROWS)
        for value in NO_ROWS:
            self.refused(InvalidRow, next, each_equation(value))


def plain_rank(rows):
    """The rank of rows of integers modulo a prime, at most that of the rows."""
    prime, rank = 2 ** 61 - 1, 0
    left = [[item % prime for item in row] for row in rows]
    for column in range(len(left[0])):
        found = [row for row in left if row[column]]
        if found:
            rank += 1
            pivot = found[0]
            undone = pow(pivot[column], -1, prime)
            left = [[(one - row[column] * undone * two) % prime for one, two in zip(row, pivot)]
                    for row in left if row is not pivot]
    return rank


class Judged(Case):

    def test_multiples(self):
        factors = ({(0, 0): -1}, {(0, 0): 10 ** 400}, {(1, 0): 1}, {(0, 1): 3}, {(0, 0): 2, (1, 0): -1},
                   {(0, 0): 1, (0, 1): 1}, {(1, 1): 1, (0, 0): 10 ** 90})
        for row in EQUATED:
            least = least_equation(row)
            for factor in factors:
                made = times(least, factor)
                if max(i for i, j in made) <= 3 and max(j for i, j in made) <= 6:
                    self.assertIs(is_equation(row, made), True)
                    self.assertIs(is_equation(row, {**made, (3, 6): made.get((3, 6), 0), (0, 0): made.get((0, 0), 0)}),
                                  True)
                    for key in made:
                        self.assertIs(is_equation(row, {**made, key: made[key] + 1}), False)
                        self.assertIs(is_equation(row, {**made, key: 10 ** 401}), False)

    def test_all_pairs_of_rows(self):
        for row in EQUATED:
            for other in EQUATED:
                self.assertIs(is_equation(row, least_equation(other)), row is other)

    def test_a_defect_that_begins_with_zeros(self):
        row = Quotient((6,), (5, 1))
        made = kernel_like(row)
        self.assertFalse(any(plain_defect(row, made, 12)))
        self.assertTrue(any(plain_defect(row, made, 40)))
        self.assertIs(is_equation(row, made), False)

    def test_defects_that_begin_with_as_many_zeros_as_can_be(self):
        longest = set()
        for row, leaves in ((MIDDLE, 2), (Quotient((3,), (2, 1)), 3)):
            for degree_z in range(4):
                for degree_y in range(1, 7):
                    bound = leaves * (2 * degree_z + degree_y) // 2
                    for many in (bound, bound + 1):
                        for made in relations(row, degree_z, degree_y, many):
                            zeros = [item == 0 for item in plain_defect(row, made, 31)]
                            self.assertIs(is_equation(row, made), all(zeros))
                            if not all(zeros):
                                longest.add(bound - zeros.index(False))
        self.assertEqual(min(longest), 0)

    def test_others(self):
        for row in EQUATED:
            for value in NO_EQUATIONS + ({(0, 0): 1}, {(0, 1): 1}, {(3, 6): 1}, {(0, 0): -1, (0, 1): 1}):
                self.assertIs(is_equation(row, value), False)
            for value in LONG_EQUATIONS:
                self.assertIs(is_equation(row, value), False)
        self.refused_each(InvalidRow, is_equation, NO_ROWS, SQUARE)
        self.assertIs(is_equation(MIDDLE, {(0, 0): 10 ** 60, (0, 2): -10 ** 60, (1, 2): 4 * 10 ** 60}), True)


def kernel_like(row):
    """A polynomial that is no equation, whose defect begins with many coefficients 0."""
    return relations(row, 2, 4, 12)[0]


def relations(row, degree_z, degree_y, many):
    """Polynomials with bounded degrees whose defects begin with so many coefficients 0."""
    pairs = [(i, j) for i in range(degree_z + 1) for j in range(degree_y + 1)]
    powers = {j: plain_defect(row, {(0, j): 1}, many) for j in range(degree_y + 1)}
    columns = [([Fraction(0)] * i + powers[j])[:many] for i, j in pairs]
    basis, found = [], []
    for at, column in enumerate(columns):
        left, told = list(column), [Fraction(int(k == at)) for k in range(len(pairs))]
        for place, line, made in basis:
            factor = left[place] / line[place]
            left = [one - factor * two for one, two in zip(left, line)]
            told = [one - factor * two for one, two in zip(told, made)]
        if not any(left):
            scale = 1
            for item in told:
                scale = scale * item.denominator // gcd(scale, item.denominator)
            found.append({key: int(item * scale) for key, item in zip(pairs, told) if item})
        else:
            basis.append((next(k for k, item in enumerate(left) if item), left, told))
    return found


class Defects(Case):

    def test_defects(self):
        drawing = random.Random(5)
        for row in ROWS + EQUATED:
            for _ in range(4):
                equation = {(drawing.randrange(4), drawing.randrange(7)): drawing.choice((-3, -1, 1, 5, LONG))
                            for _ in range(drawing.randint(1, 5))}
                many = min(drawing.randint(1, 9), 1 + 600 // row.greatest)
                self.same(defect(row, equation, many), tuple(pair(item) for item in plain_defect(row, equation, many)))
        for row in EQUATED:
            self.same(defect(row, least_equation(row), 60), ((0, 1),) * 60)
            self.same(defect(row, {**least_equation(row), (3, 6): 0}, 1), ((0, 1),))
        self.same(defect(MIDDLE, {(0, 0): LONG}, 3), ((LONG, 1), (0, 1), (0, 1)))
        self.same(defect(MIDDLE, {(3, 0): 2}, 3), ((0, 1),) * 3)
        self.same(defect(MIDDLE, {(3, 0): 2}, 4), ((0, 1),) * 3 + ((2, 1),))

    def test_defects_with_denominators(self):
        for row in (TURNED, BROKEN, Quotient((), (1,)), Quotient((), (2, 3)), Quotient((1, 1), (3,)), SHORT):
            equation = {(0, 0): 2, (1, 3): -5, (0, 6): 1, (2, 1): 7}
            self.same(defect(row, equation, 25), tuple(pair(item) for item in plain_defect(row, equation, 25)))

    def test_they_refuse(self):
        self.refused_each(InvalidRow, defect, NO_ROWS, SQUARE, 1)
        self.refused_each(InvalidEquation, lambda equation: defect(MIDDLE, equation, 1), NO_EQUATIONS + LONG_EQUATIONS)
        self.refused_each(InvalidNumber, lambda many: defect(MIDDLE, SQUARE, many), NO_INTEGERS + (0, -1, 61, LONG))
        self.refused(TooMany(600), defect, CHEBYSHEV, SQUARE, 22)
        self.refused(InvalidEquation, defect, CHEBYSHEV, {}, 22)
        self.refused(InvalidRow, defect, None, None, None)
        self.refused(InvalidEquation, defect, MIDDLE, None, None)


class Roots(Case):

    def test_roots_of_equations(self):
        for row in EQUATED:
            for equation in each_equation(row):
                slope = sum(j * item for (i, j), item in equation.items() if i == 0)
                if slope != 0:
                    self.same(root_of(equation, 24), series(row, 24))
                else:
                    self.refused(InvalidOperation, root_of, equation, 24)

    def test_drawn_roots(self):
        drawing = random.Random(6)
        made = 0
        for _ in range(150):
            equation = {(drawing.randrange(4), drawing.randrange(7)): drawing.randint(-4, 4) for _ in range(6)}
            equation[(0, 0)] = -sum(item for (i, j), item in equation.items() if i == 0 and j > 0)
            slope = sum(j * item for (i, j), item in equation.items() if i == 0)
            if any(equation.values()) and slope != 0:
                made += 1
                found = root_of(equation, 9)
                self.same((found[0], len(found)), ((1, 1), 9))
                values = [fraction(item) for item in found]
                total = [Fraction(0)] * 9
                for (i, j), item in equation.items():
                    power = [Fraction(item)] + [Fraction(0)] * 8
                    for _ in range(j):
                        power = [sum(power[k] * values[n - k] for k in range(n + 1)) for n in range(9)]
                    total = [one + (power[n - i] if n >= i else 0) for n, one in enumerate(total)]
                self.assertFalse(any(total))
                self.assertEqual(found, tuple(pair(value) for value in values))
                self.same(root_of(equation, 1), ((1, 1),))
        self.assertGreater(made, 60)

    def test_roots_with_long_integers(self):
        equation = {(0, 0): -LONG, (0, 1): LONG, (1, 6): 1, (3, 0): -LONG}
        found = [fraction(item) for item in root_of(equation, 24)]
        self.assertEqual(found[:2], [1, Fraction(-1, LONG)])
        self.same(root_of({(0, 0): -1, (0, 1): 1}, 24), ((1, 1),) + ((0, 1),) * 23)

    def test_no_roots(self):
        for equation in ({(0, 2): 1, (0, 1): -2, (0, 0): 1}, {(0, 0): 1}, {(1, 0): 1}, {(0, 1): 1}, {(1, 1): 5},
                         {(0, 0): 2, (0, 1): -1}, times(SQUARE, SQUARE), {(0, 0): 1, (0, 1): -1, (0, 2): 1}):
            self.refused(InvalidOperation, root_of, equation, 3)

    def test_they_refuse(self):
        self.refused_each(InvalidEquation, root_of, NO_EQUATIONS + LONG_EQUATIONS, 1)
        self.refused_each(InvalidNumber, lambda many: root_of(SQUARE, many), NO_INTEGERS + (0, -1, 25, LONG))
        self.refused(InvalidEquation, root_of, None, None)
        self.refused(InvalidNumber(25), root_of, {(0, 0): 1}, 25)
        self.same(len(root_of(SQUARE, 24)), 24)

    def test_an_algebraic_row_need_not_have_an_equation(self):
        self.assertIsNone(equation_of(CHEBYSHEV))
        self.same(degree_of(CHEBYSHEV), 8)
