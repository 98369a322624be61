"""[3.1] to [3.4], [0.8] to [0.10] and wholerises.row.quotients."""

from fractions import Fraction
from math import lcm

from wholerises.errors import InvalidNumber, InvalidOperation, InvalidRow, TooMany
from wholerises.row import quotients
from wholerises.row.quotients import Quotient, is_beginning
from tests.support import (
    BROKEN, CHEBYSHEV, FIVE, GREAT, GREATEST, LATE, LONG, MIDDLE, NO_INTEGERS, NO_PRIMES, NO_ROWS, OBJECTS, ROWS,
    TURNED, WRONG, Case, depth_of, exponent_in, fraction, numbers_of, pair)

NO_SIDES = tuple(value for value in WRONG + OBJECTS if value != ()) + (
    1, (0,), (-1,), (61,), (1, 61), (True,), (1, True), (1, None), ("1",), ((1,),), (1,) * 9, [1], {1: 1}, (1, LONG),
    (1, 10 ** 60))
ONES = Quotient((), (1,) * 8)


class Making(Case):

    def test_constants(self):
        self.same((quotients.MAX_MEMBER, quotients.MAX_SIDE, quotients.MAX_COMMON, quotients.MOST_FACTORIAL),
                  (60, 8, 2520, 600))

    def test_sides(self):
        row = Quotient((2, 9, 4, 4), (3, 1, 5, 5, 5))
        self.same((row.tops, row.bottoms), ((9, 4, 4, 2), (5, 5, 5, 3, 1)))
        self.same(row.members, {1: -1, 2: 1, 3: -1, 4: 2, 5: -3, 9: 1})

    def test_what_is_on_both_sides_is_taken_out(self):
        row = Quotient((6, 6, 6, 2, 5), (6, 5, 2, 2, 2))
        self.same((row.tops, row.bottoms, row.members), ((6, 6), (2, 2), {2: -2, 6: 2}))
        self.same(Quotient((60, 59, 4), (59, 3)).tops, (60, 4))
        for number in range(5):
            self.same(row.value(number), pair(numbers_of(Quotient((6, 6), (2, 2)), number)))

    def test_the_greatest_rows(self):
        self.same([GREATEST.common, GREATEST.greatest, len(GREATEST)], [2520, 60, 16])
        self.same([Quotient((1,) * 8, ()).height, ONES.height, Quotient((60,), ()).greatest], [-8, 8, 60])
        self.same(Quotient((2,) * 8, (1,) * 8).height, 0)

    def test_it_refuses(self):
        self.refused_each(InvalidRow, Quotient, NO_SIDES, (1,))
        self.refused_each(InvalidRow, lambda bottoms: Quotient((2,), bottoms), NO_SIDES)
        for tops, bottoms in (((), ()), ((2,), (2,)), ((1, 2, 2), (2, 1, 2)), ((60, 59), ()), ((59,), (43,)),
                              ((32, 9, 5, 11), ()), ((2,) * 9, (2,)), ((2,), (2,) * 9), ((16, 9, 5, 7), ())):
            self.refused(InvalidRow, Quotient, tops, bottoms)

    def test_binomial(self):
        self.same([str(Quotient.binomial(1, 1)), str(Quotient.binomial(3, 1)), str(Quotient.binomial(20, 40)),
                   str(Quotient.binomial(1, 48)), str(Quotient.binomial(30, 30))],
                  ["quotient 2/1 1", "quotient 4/3 1", "quotient 60/40 20", "quotient 49/48 1", "quotient 60/30 30"])
        self.refused_each(InvalidNumber, Quotient.binomial, NO_INTEGERS + (0, -1, 60, LONG), 1)
        self.refused_each(InvalidNumber, lambda other: Quotient.binomial(1, other), NO_INTEGERS + (0, -1, 60, LONG))
        for one, other in ((30, 31), (59, 2), (59, 1), (1, 59)):
            self.refused(InvalidOperation, Quotient.binomial, one, other)
        self.refused(InvalidNumber(0), Quotient.binomial, 0, 60)
        self.refused(InvalidNumber(60), Quotient.binomial, 59, 60)

    def test_of_members(self):
        for row in ROWS + (ONES,):
            self.assertTrue(Quotient.of_members(row.members) == row)
            self.assertTrue(Quotient.of_members(dict(reversed(list(row.members.items())))) == row)
        given = {5: -2, 1: 3, 10: 1}
        row = Quotient.of_members(given)
        given[7] = 1
        self.same((row.tops, row.bottoms, given), ((10, 1, 1, 1), (5, 5), {5: -2, 1: 3, 10: 1, 7: 1}))

    def test_of_members_refuses(self):
        wrong = tuple(value for value in NO_INTEGERS if value != {1: 1}) + (
            1, ((1, 1),), {0: 1}, {-1: 1}, {61: 1}, {True: 1}, {1: True}, {1: False}, {1: 0}, {1: 1, 2: 0}, {1: None},
            {"1": 1}, {None: 1}, {(1, 2): 1}, {1: 9}, {1: -9}, {1: 5, 2: 4}, {1: LONG}, {1: -LONG}, {1: 10 ** 60},
            {59: 1, 60: -1}, {1: (1,)}, {LONG: 1})
        self.refused_each(InvalidRow, Quotient.of_members, wrong)


class Properties(Case):

    def test_each_one(self):
        for row in ROWS:
            tops, bottoms = row.tops, row.bottoms
            self.assertEqual((type(tops), type(bottoms)), (tuple, tuple))
            self.assertEqual((list(tops), list(bottoms)), (sorted(tops, reverse=True), sorted(bottoms, reverse=True)))
            both = tops + bottoms
            self.same(row.members, {m: tops.count(m) - bottoms.count(m) for m in sorted(set(both))})
            self.same((row.greatest, row.common, len(row)), (max(both), lcm(*both), len(both)))
            self.same((row.excess, row.height), (sum(tops) - sum(bottoms), len(bottoms) - len(tops)))
            self.same(row.is_balanced, sum(tops) == sum(bottoms))

    def test_no_state_is_shared(self):
        members = BROKEN.members
        members[1] = 7
        members[5] = 5
        self.same(BROKEN.members, {1: 1, 2: -1, 3: -1, 4: 1})
        self.same(str(BROKEN), "quotient 4 1/3 2")

    def test_text(self):
        self.same([str(row) for row in (MIDDLE, TURNED, CHEBYSHEV, Quotient((), (3, 1)), Quotient((1, 7), ()))],
                  ["quotient 2/1 1", "quotient 1 1/2", "quotient 30 1/15 10 6", "quotient -/3 1", "quotient 7 1/-"])

    def test_equal_rows(self):
        self.assertIs(MIDDLE == Quotient((2,), (1, 1)), True)
        self.assertIs(MIDDLE != Quotient((2,), (1, 1)), False)
        self.assertIs(Quotient((1, 3, 4), (2,)) == Quotient((4, 3, 1, 5), (5, 2)), True)
        for other in NO_ROWS + ROWS[1:] + (Quotient((2,), (1,)), Quotient((2, 2), (1, 1))):
            self.assertIs(MIDDLE == other, False)
            self.assertIs(MIDDLE != other, True)
        self.assertIs(Quotient((3,), (2,)) == Quotient((3,), (1,)), False)
        self.assertIs(Quotient((3,), (2,)) == Quotient((4,), (2,)), False)

    def test_iteration(self):
        for row in ROWS:
            self.same(list(row), list(row.members.items()))
            self.same(list(row), list(row))

    def test_in(self):
        for member in (1, 2, 3, 4):
            self.assertIs(member in BROKEN, True)
        for value in NO_INTEGERS + (0, 5, -1, 12, LONG, (4, 1), [4], "4"):
            self.assertIs(value in BROKEN, False)
            self.assertIs(value in MIDDLE, False)


class Numbers(Case):

    def test_values(self):
        for row in ROWS:
            for number in sorted({0, 1, 2, 3, 600 // row.greatest}):
                self.same(row.value(number), pair(numbers_of(row, number)))
        self.same(Quotient((1,) * 8, ()).value(600), pair(numbers_of(Quotient((1,) * 8, ()), 600)))
        self.same(Quotient((), (60,)).value(10), pair(numbers_of(Quotient((), (60,)), 10)))

    def test_values_refuse(self):
        self.refused_each(InvalidNumber, MIDDLE.value, NO_INTEGERS + (-1, 601, LONG))
        self.refused(TooMany(600), MIDDLE.value, 301)
        self.refused(TooMany(600), MIDDLE.value, 600)
        self.refused(TooMany(600), GREATEST.value, 11)
        self.refused(InvalidNumber(601), Quotient((1,), ()).value, 601)

    def test_exponents(self):
        for row in ROWS:
            for number in range(0, min(12, 600 // row.greatest + 1)):
                value = fraction(row.value(number))
                for prime in (2, 3, 5, 7, 11, 13, 997):
                    self.same(row.exponent(prime, number), exponent_in(prime, value))

    def test_exponents_are_sums_of_depths(self):
        for row in ROWS:
            for prime, number in ((2, 10 ** 30), (3, 10 ** 30 - 1), (7, 12345678901234567890), (999983, 10 ** 30)):
                total, power = 0, prime
                while power <= row.greatest * number:
                    total += depth_of(row, Fraction(number, power))
                    power *= prime
                self.same(row.exponent(prime, number), total)

    def test_exponents_refuse(self):
        self.refused_each(InvalidNumber, MIDDLE.exponent, NO_PRIMES, 5)
        self.refused_each(InvalidNumber, lambda number: MIDDLE.exponent(2, number), NO_INTEGERS + (-1, 10 ** 30 + 1))
        self.refused(InvalidNumber(4), MIDDLE.exponent, 4, -1)

    def test_steps(self):
        for row in ROWS:
            for number in range(min(6, 600 // row.greatest)):
                self.same(row.step(number), pair(numbers_of(row, number + 1) / numbers_of(row, number)))
        self.same(MIDDLE.step(10 ** 6), pair(Fraction(2 * (2 * 10 ** 6 + 1), 10 ** 6 + 1)))
        self.same(TURNED.step(10 ** 6), pair(Fraction(10 ** 6 + 1, 2 * (2 * 10 ** 6 + 1))))
        self.assertGreater(GREATEST.step(10 ** 6)[0], 0)

    def test_steps_refuse(self):
        self.refused_each(InvalidNumber, MIDDLE.step, NO_INTEGERS + (-1, 10 ** 6 + 1, LONG))

    def test_each_value(self):
        for row in ROWS + (Quotient((7,), (3, 3)), Quotient((59,), ())):
            found = list(row.each_value())
            self.assertEqual(len(found), 600 // row.greatest + 1)
            for number in sorted({0, 1, 2, len(found) - 1}):
                self.same(found[number], row.value(number))
        self.same(list(Quotient((1,), ()).each_value())[:4], [(1, 1), (1, 1), (2, 1), (6, 1)])


class Operators(Case):

    def test_times(self):
        for row in ROWS:
            for number in (1, 2, 3, 4):
                if row.greatest * number <= 60 and row.common * number <= 2520:
                    self.same((row * number).members, {m * number: c for m, c in row.members.items()})
                    self.same((row * number).value(2), row.value(2 * number))
        self.same([str(MIDDLE * 30), str(Quotient((1,), ()) * 60)], ["quotient 60/30 30", "quotient 60/-"])

    def test_times_refuses(self):
        self.refused_each(InvalidNumber, lambda number: MIDDLE * number, NO_INTEGERS + (0, -1, 61, LONG))
        self.refused(InvalidOperation, lambda: MIDDLE * 31)
        self.refused(InvalidOperation, lambda: Quotient((8, 9), (5, 7)) * 2)
        self.refused(InvalidOperation, lambda: GREATEST * 60)

    def test_plus(self):
        for one in ROWS:
            for other in ROWS:
                both = sorted({*one.members, *other.members})
                members = {m: one.members.get(m, 0) + other.members.get(m, 0) for m in both}
                left = {m: c for m, c in members.items() if c}
                tops, bottoms = sum(c for c in left.values() if c > 0), -sum(c for c in left.values() if c < 0)
                if left and max(tops, bottoms) <= 8 and lcm(*left) <= 2520:
                    self.same((one + other).members, left)
                    self.same((one + other).excess, one.excess + other.excess)
                    self.same((one + other).height, one.height + other.height)
                else:
                    self.refused(InvalidOperation, lambda: one + other)
        self.same(str(MIDDLE + BROKEN), "quotient 4/3 1")
        self.same(str(Quotient((3,) * 8, (1,) * 8) + Quotient((1,) * 8, (3,) * 7)), "quotient 3/-")
        self.same((MIDDLE + LATE).value(3), pair(fraction(MIDDLE.value(3)) * fraction(LATE.value(3))))

    def test_plus_refuses(self):
        self.refused_each(InvalidRow, lambda other: MIDDLE + other, NO_ROWS)
        self.refused(InvalidOperation, lambda: MIDDLE + TURNED)
        self.refused(InvalidOperation, lambda: ONES + ONES)
        self.refused(InvalidOperation, lambda: Quotient((8, 9), ()) + Quotient((5, 7, 11), ()))

    def test_exchanged_and_divided(self):
        for row in ROWS:
            other = row.exchanged()
            self.same((other.tops, other.bottoms, type(other)), (row.bottoms, row.tops, Quotient))
            if row.greatest <= 30:
                self.same(other.value(3), pair(1 / fraction(row.value(3))))
                self.assertTrue((row * 2).divided() == row.divided())
        self.same([str(row.divided()) for row in (Quotient((12, 6), (9, 9)), Quotient((60,), ()), MIDDLE, BROKEN)],
                  ["quotient 4 2/3 3", "quotient 1/-", "quotient 2/1 1", "quotient 4 1/3 2"])

    def test_rows_never_change(self):
        before = [(str(row), list(row), row.members) for row in ROWS]
        for row in ROWS:
            row.exchanged(), row.divided(), row * 1, row == MIDDLE, list(row.each_value())[:1]
        self.same([(str(row), list(row), row.members) for row in ROWS], before)


class Beginnings(Case):

    def test_beginnings(self):
        for row in ROWS:
            values = tuple(row.each_value())
            for size in sorted({1, 2, len(values)}):
                self.assertIs(is_beginning(row, values[:size]), True)
            self.assertIs(is_beginning(row, values + ((1, 1),)), False)
            self.assertIs(is_beginning(row, list(values)), False)
        self.assertEqual(len(tuple(Quotient((1,), ()).each_value())), 601)

    def test_others(self):
        self.judges(lambda value: is_beginning(MIDDLE, value),
                    (((1, 1),), ((1, 1), (2, 1)), ((1, 1), (2, 1), (6, 1), (20, 1))),
                    NO_INTEGERS + (
                        1, ((True, 1),), ((1, True),), ((1, 1), (2, True)), ((2, 2),), ((-1, -1),), ((1, 1), (4, 2)),
                        ((1, 1), (2, 1), (7, 1)), ((1, 1), (2, 2)), (1, 2, 6), ([1, 1],), ((1, 1, 1),), ((1,),),
                        ((2, 1),), (MIDDLE,), (("1", 1),), ((1, 1), None), ((1, 1), 10 ** 5000)))

    def test_it_refuses(self):
        self.refused_each(InvalidRow, is_beginning, NO_ROWS, ((1, 1),))
        self.refused(InvalidRow, is_beginning, 5, None)


class NotTrue(Case):

    def test_what_is_not_true(self):
        self.same([BROKEN.value(1), BROKEN.value(2)], [(2, 1), (14, 3)])
        self.same(MIDDLE.exponent(5, 3), 1)
        self.same(Quotient((6,), (5,)).value(1), Quotient((3,), (1,)).value(1))
        self.assertIs(Quotient((6,), (5,)) == Quotient((3,), (1,)), False)
        self.same([2 in MIDDLE, 2 in BROKEN, 2 in MIDDLE + BROKEN], [True, True, False])

    def test_the_rows_that_the_document_describes(self):
        self.same([FIVE.height, GREAT.common, [row.is_balanced for row in (MIDDLE, LATE, Quotient((2,), (1,)))]],
                  [4, 2520, [True, True, False]])
