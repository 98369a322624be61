"""[7.1] to [7.6] and wholerises.circle.products."""

from fractions import Fraction
from math import gcd

from wholerises.base.polynomials import cyclotomic, cyclotomic_parts
from wholerises.circle import products as module
from wholerises.circle.products import (
    degree_of, depth_by_places, each_place, half_turned, has_place, parts, places, products, row_of_parts,
    row_of_products)
from wholerises.errors import InvalidOperation, InvalidPolynomial, InvalidRatio, InvalidRow, TooMany
from wholerises.row.quotients import Quotient
from wholerises.stair.stairs import depth
from wholerises.stair.wholes import is_whole
from tests.support import (
    BROKEN, CHEBYSHEV, FIVE, GREAT, GREATEST, LONG, MIDDLE, NO_RATIOS, NO_ROWS, OBJECTS, ROWS, TURNED, WRONG, Case,
    depth_of, drawn_rows, fraction, pair, plain_units)

SOME = list(ROWS) + drawn_rows(150) + drawn_rows(40, 60, 8)
WITHIN = (TURNED, Quotient((1,), ()), Quotient((60,), ()), Quotient((), (60,)))
NO_PARTS = tuple(value for value in WRONG if value != {1: 1}) + OBJECTS + (
    1, (1, 1), ((1, 1),), {0: 1}, {61: 1}, {-1: 1}, {1: 0}, {1: 61}, {1: -61}, {1: True}, {1: None}, {1: "1"},
    {True: 1}, {"1": 1}, {None: 1}, {(1, 2): 1}, {1: 10 ** 60}, {10 ** 60: 1}, {2: 1, 3: 0}, {2: 1, 3: (1,)},
    {number: 1 for number in range(1, 62)})


def plain_part(row, number):
    """c(s), by the definition."""
    return sum(1 for top in row.tops if top % number == 0) - sum(
        1 for bottom in row.bottoms if bottom % number == 0)


def plain_product(factors):
    """The product of polynomials of any degree."""
    made = [1]
    for factor in factors:
        total = [0] * (len(made) + len(factor) - 1)
        for i, item in enumerate(made):
            for j, other in enumerate(factor):
                total[i + j] += item * other
        made = total
    return made


def plain_places(row):
    """The places of tops and bottoms, by the definition."""
    tops, bottoms = [], []
    for number in range(1, 61):
        for unit in plain_units(number):
            tops += [Fraction(unit, number)] * plain_part(row, number)
            bottoms += [Fraction(unit, number)] * -plain_part(row, number)
    return sorted(tops), sorted(bottoms)


class Parts(Case):

    def test_constants(self):
        self.same((module.MAX_DEGREE, module.MAX_PARTS), (40, 60))

    def test_parts(self):
        for row in SOME:
            wanted = {number: plain_part(row, number) for number in range(1, 61) if plain_part(row, number) != 0}
            self.same(parts(row), wanted)
            self.same(plain_part(row, 61), 0)

    def test_parts_tell_the_row(self):
        for row in SOME:
            found = row_of_parts(parts(row))
            self.assertTrue(found == row)
            self.assertIs(type(found), Quotient)
            self.assertTrue(row_of_parts(dict(reversed(list(parts(row).items())))) == row)

    def test_parts_of_sums_and_exchanged_rows(self):
        for row in SOME:
            self.same(parts(row.exchanged()), {number: -part for number, part in parts(row).items()})
        for one in (MIDDLE, CHEBYSHEV, BROKEN):
            for other in (FIVE, BROKEN, Quotient((3,), (2, 1))):
                wanted = {number: plain_part(one, number) + plain_part(other, number) for number in range(1, 61)}
                self.same(parts(one + other), {number: part for number, part in wanted.items() if part != 0})

    def test_no_row(self):
        self.assertIsNone(row_of_parts({1: 9}))
        self.assertIsNone(row_of_parts({1: -9}))
        self.same(row_of_parts({1: 8}).tops, (1,) * 8)
        self.same(row_of_parts({1: -8}).bottoms, (1,) * 8)
        self.assertIsNone(row_of_parts({59: 1, 60: 1}))
        self.assertIsNone(row_of_parts({number: 1 for number in range(1, 61)}))
        self.assertIsNone(row_of_parts({1: 60}))
        self.assertIsNone(row_of_parts({60: -60}))
        self.same(row_of_parts({30: 1}).members, {1: -1, 2: 1, 3: 1, 5: 1, 6: -1, 10: -1, 15: -1, 30: 1})
        self.same(row_of_parts({2: 1}).members, {1: -1, 2: 1})
        self.same(row_of_parts({4: 1, 2: 1, 1: 1}).members, {4: 1})

    def test_no_row_by_the_common_multiple(self):
        self.assertIsNone(row_of_parts({1: 2, 59: 1, 53: 1}))
        self.same(row_of_parts({1: 2, 56: 1, 28: 1, 14: 1, 8: 1, 7: 1, 4: 1, 2: 1, 45: 1, 15: 1, 9: 1, 5: 1, 3: 1}).tops,
                  (56, 45))
        self.assertIsNone(row_of_parts({1: 2, 59: 1, 43: 1}))

    def test_wrong_parts(self):
        self.refused_each(InvalidOperation, row_of_parts, NO_PARTS)

    def test_a_new_dict_each_time(self):
        parts(MIDDLE)[1] = 7
        self.same(parts(MIDDLE), {1: -1, 2: 1})
        given = {2: 1, 1: -1}
        row_of_parts(given)
        self.same(given, {2: 1, 1: -1})


class Products(Case):

    def test_degrees(self):
        for row in SOME:
            tops, bottoms = plain_places(row)
            self.same(degree_of(row), max(len(tops), len(bottoms)))
            self.same(len(tops) - len(bottoms), row.excess)

    def test_degrees_and_greatest_members(self):
        self.same([degree_of(Quotient((3,), (2, 1))), degree_of(Quotient((4,), (2, 2)))], [2, 2])
        self.same(degree_of(Quotient((2, 2, 2), (1,) * 6)), 3)

    def test_products(self):
        for row in SOME:
            if degree_of(row) <= 40:
                one, other = products(row)
                left = plain_product([one] + [[-1] + [0] * (bottom - 1) + [1] for bottom in row.bottoms])
                right = plain_product([other] + [[-1] + [0] * (top - 1) + [1] for top in row.tops])
                self.assertEqual(left, right)
                self.same((one[-1], other[-1], len(one) - len(other)), (1, 1, row.excess))
                self.assertFalse(set(cyclotomic_parts(one)) & set(cyclotomic_parts(other)))
                self.same(one[0] * other[0], -1 if row.height % 2 == 1 else 1)

    def test_the_greatest_degree(self):
        self.same([len(polynomial) for polynomial in products(Quotient((41,), (41 - 1, 1)))], [41, 41])
        for row in (Quotient((42,), (41, 1)), Quotient((60,), ()), Quotient((), (60,)), GREATEST, GREAT,
                    Quotient((21, 20), ()), Quotient((7,) * 6, (1,))):
            self.same(degree_of(row) > 40, True)
            self.refused(TooMany(40), products, row)
        for row in (Quotient((40,), ()), Quotient((), (40,)), Quotient((7,) * 6, (1, 1))):
            self.same(degree_of(row), 40)
            self.same(max(len(polynomial) for polynomial in products(row)), 41)

    def test_rows_of_products(self):
        for row in SOME:
            if degree_of(row) <= 40:
                self.assertTrue(row_of_products(*products(row)) == row)
        for one in range(1, 25):
            for other in range(1, 25):
                found = row_of_products(cyclotomic(one), cyclotomic(other))
                if one == other:
                    self.assertIsNone(found)
                else:
                    wanted = row_of_parts({one: 1, other: -1})
                    self.assertTrue(found == wanted)

    def test_common_products(self):
        for more in ((1,), cyclotomic(1), cyclotomic(12), cyclotomic(75)[:1], (-1, 0, 0, 0, 0, 0, 1)):
            one, other = [tuple(plain_product([given, more])) for given in products(BROKEN)]
            self.assertTrue(row_of_products(one, other) == BROKEN)
        self.assertTrue(row_of_products((-1, 0, 1), cyclotomic(1)) == row_of_parts({2: 1}))
        self.assertTrue(row_of_products((1,), cyclotomic(1)) == Quotient((), (1,)))

    def test_no_row_of_products(self):
        for one, other in (((1,), (1,)), ((1, 1), (1, 1)), (cyclotomic(75), (1,)),
                           (cyclotomic(66), cyclotomic(33)), ((1, 1), (1, 0, 2)), ((1, 0, 2), (1, 1)), ((0,), (1, 1)),
                           ((1, 1), (0,)), ((2,), (1,)), ((-1,), (1, 1)), ((1, -1), (1, 1)), ((1, 2), (1, 2)),
                           (tuple(plain_product([(-1, 1)] * 9)), (1,))):
            self.assertIsNone(row_of_products(one, other))

    def test_wrong_products(self):
        for action in (row_of_products, lambda other, one: row_of_products(one, other)):
            self.refused_each(InvalidPolynomial, action, WRONG + OBJECTS + ((0, 0), (1, 0), (1,) * 42), (1, 1))
        self.refused(InvalidPolynomial, row_of_products, (0,), None)

    def test_refusals(self):
        for action in (parts, degree_of, products, places, half_turned):
            self.refused_each(InvalidRow, action, NO_ROWS)
        for value in NO_ROWS:
            self.refused(InvalidRow, next, each_place(value))


class Places(Case):

    def test_places(self):
        for row in SOME:
            tops, bottoms = plain_places(row)
            self.same(places(row), (tuple(pair(place) for place in tops), tuple(pair(place) for place in bottoms)))

    def test_each_place(self):
        for row in SOME:
            tops, bottoms = plain_places(row)
            found = list(each_place(row))
            self.same([place for place, part in found], [pair(place) for place in sorted(set(tops + bottoms))])
            for place, part in found:
                self.same(part, plain_part(row, place[1]))
                self.same(part, tops.count(fraction(place)) - bottoms.count(fraction(place)))

    def test_has_place(self):
        for row in ROWS + WITHIN:
            one, other = places(row)
            for bottom in range(1, 62):
                for top in plain_units(bottom):
                    self.assertIs(has_place(row, (top, bottom)), (top, bottom) in one + other)

    def test_no_places(self):
        for row in ROWS:
            for value in NO_RATIOS + ((0, 1), (-1, 2), (3, 2), (2, 1), (31, 30), (1, LONG), (2, 4), (True, 1),
                                      (10 ** 400, 1), (1, 10 ** 400), (-29, 30), ((1, 2), 1)):
                self.assertIs(has_place(row, value), False)
        self.refused_each(InvalidRow, has_place, NO_ROWS, (1, 2))

    def test_the_bound_of_the_places(self):
        self.same([has_place(MIDDLE, ratio) for ratio in ((1, 1), (1, 2), (1, 3))], [True, True, False])

    def test_depth_by_places(self):
        for row in SOME:
            for top, bottom in ((0, 1), (1, 1), (1, 2), (2, 3), (59, 60), (7, 4), (17, 5), (1, 61), (100, 1), (1, 60),
                                (LONG, 2), (1, LONG), (11, 30), (29, 30), (31, 30)):
                wanted = depth_of(row, Fraction(top, bottom))
                self.same(depth_by_places(row, (top, bottom)), wanted)
        for row in ROWS:
            for bottom in (12, 35, 60):
                for top in range(bottom):
                    ratio = pair(Fraction(top, bottom))
                    self.same(depth_by_places(row, ratio), depth(row, ratio))

    def test_depth_refuses(self):
        self.refused_each(InvalidRow, depth_by_places, NO_ROWS, (1, 2))
        self.refused_each(InvalidRatio, lambda ratio: depth_by_places(MIDDLE, ratio), NO_RATIOS)
        self.refused_each(InvalidOperation, lambda ratio: depth_by_places(MIDDLE, ratio), ((-1, 1), (-1, LONG)))
        self.refused(InvalidRow, depth_by_places, None, None)
        self.refused(InvalidRow, depth_by_places, None, (-1, 2))

    def test_half_turns(self):
        turned = 0
        for row in SOME + list(WITHIN):
            found = half_turned(row)
            tops, bottoms = [sorted((place + Fraction(1, 2) - 1) % 1 or Fraction(1) for place in side)
                             for side in plain_places(row)]
            if found is not None:
                turned += 1
                self.assertEqual(plain_places(found), (tops, bottoms))
                self.assertTrue(half_turned(found) == row)
            else:
                told = {}
                for number, part in parts(row).items():
                    told[{0: number, 2: number // 2}.get(number % 4, 2 * number)] = part
                members = {}
                for number in range(1, 121):
                    signs = [(d, plain_sign(d // number)) for d in told if d % number == 0]
                    members[number] = sum(sign * told[d] for d, sign in signs)
                self.assertFalse(is_row(members))
        self.assertGreater(turned, 50)

    def test_half_turns_of_some(self):
        self.assertTrue(half_turned(MIDDLE) == TURNED)
        self.assertFalse(is_whole(half_turned(MIDDLE)))
        self.assertTrue(half_turned(Quotient((1,), ())) == row_of_parts({2: 1}))
        self.assertIsNone(half_turned(Quotient((31,), ())))
        self.assertTrue(half_turned(Quotient((29,), ())) == Quotient((58,), (29,)))
        self.assertIsNone(half_turned(Quotient((59,), ())))


def plain_sign(number):
    """The sign number, by the definition."""
    sign = 1
    for prime in range(2, number + 1):
        if number % prime == 0 and all(prime % other for other in range(2, prime)):
            if number % (prime * prime) == 0:
                return 0
            sign = -sign
    return sign


def is_row(members):
    """Whether a dict of members, some of which can be 0, tells a quotient row."""
    told = {member: count for member, count in members.items() if count != 0}
    common = 1
    for member in told:
        common = common * member // gcd(common, member)
    tops = sum(count for count in told.values() if count > 0)
    bottoms = sum(-count for count in told.values() if count < 0)
    return bool(told) and max(told) <= 60 and tops <= 8 and bottoms <= 8 and common <= 2520
