"""[4.1] to [4.6] and wholerises.stair.stairs."""

from fractions import Fraction
from itertools import combinations_with_replacement

from wholerises.base.numbers import moebius
from wholerises.errors import InvalidNumber, InvalidOperation, InvalidRatio, InvalidRow
from wholerises.row.quotients import Quotient
from wholerises.stair import stairs as module
from wholerises.stair.stairs import (
    depth, each_stair, greatest_depth, jump, least_depth, lengths, row_of_stairs, stair_of, stairs, stairs_at)
from tests.support import (
    BROKEN, CHEBYSHEV, FIVE, GREAT, GREATEST, LONG, MIDDLE, NO_INTEGERS, NO_RATIOS, NO_ROWS, ROWS, TURNED, Case,
    depth_of, fraction, pair)

PLACES = sorted({Fraction(top, bottom) for bottom in range(1, 13) for top in range(3 * bottom)})
FIRST = ((0, 1), 0)


def places_of(row):
    """All multiples of 1 / common from 0 on and below 1."""
    return [Fraction(k, row.common) for k in range(row.common)]


def plain_stairs(row):
    """The stairs by the definition: a new one where the depth is another one."""
    found = [(Fraction(0), 0)]
    for place in places_of(row):
        if depth_of(row, place) != found[-1][1]:
            found.append((place, depth_of(row, place)))
    return tuple((pair(place), height) for place, height in found)


class Depths(Case):

    def test_constant(self):
        self.same(module.MOST_STAIRS, 2000)

    def test_depths(self):
        for row in ROWS:
            for place in PLACES:
                self.same(depth(row, pair(place)), depth_of(row, place))
                self.same(depth(row, pair(place + 1)), depth(row, pair(place)) + row.excess)
            for ratio in ((LONG, 1), (1, LONG), (LONG, LONG - 1), (LONG - 1, LONG)):
                self.same(depth(row, ratio), depth_of(row, fraction(ratio)))

    def test_depths_of_sums_and_multiples(self):
        for place in PLACES:
            self.same(depth(MIDDLE + BROKEN, pair(place)), depth(MIDDLE, pair(place)) + depth(BROKEN, pair(place)))
            self.same(depth(BROKEN * 5, pair(place)), depth(BROKEN, pair(5 * place)))

    def test_depth_refuses(self):
        self.refused_each(InvalidRow, depth, NO_ROWS, (1, 2))
        self.refused_each(InvalidRatio, lambda ratio: depth(MIDDLE, ratio), NO_RATIOS)
        self.refused_each(InvalidOperation, lambda ratio: depth(MIDDLE, ratio), ((-1, 2), (-1, LONG), (-LONG, 1)))
        self.refused(InvalidRow, depth, None, (1, 0))
        self.refused(InvalidRatio, depth, MIDDLE, (-2, 2))

    def test_jumps(self):
        for row in ROWS:
            for number in list(range(1, 70)) + [2520]:
                wanted = sum(c for m, c in row.members.items() if m % number == 0)
                self.same(jump(row, number), wanted)
                if number > 1:
                    place = Fraction(number + 1, number)
                    grown = depth_of(row, place) - depth_of(row, place - Fraction(1, 10 ** 6))
                    self.same(jump(row, number), grown)
            self.same(jump(row, 1), -row.height)

    def test_jumps_tell_the_members(self):
        for row in ROWS:
            for d in range(1, 61):
                total = sum(moebius(s // d) * jump(row, s) for s in range(d, 61, d))
                self.same(total, row.members.get(d, 0))

    def test_jump_refuses(self):
        self.refused_each(InvalidRow, jump, NO_ROWS, 2)
        self.refused_each(InvalidNumber, lambda number: jump(MIDDLE, number), NO_INTEGERS + (0, -1, 2521, LONG))
        self.refused(InvalidRow, jump, 5, 0)


class Stairs(Case):

    def test_stairs(self):
        for row in ROWS:
            self.same(stairs(row), plain_stairs(row))

    def test_each_stair(self):
        for row in ROWS:
            told = stairs(row)
            ends = [start for start, height in told[1:]] + [(1, 1)]
            found = list(each_stair(row))
            self.same(found, [(start, end, height) for (start, height), end in zip(told, ends)])
            self.same(found[-1][2], row.excess + row.height)
            for start, end, height in found:
                self.assertGreaterEqual(fraction(end) - fraction(start), Fraction(1, row.greatest ** 2))

    def test_opposite_places(self):
        for row in ROWS:
            starts = [start for start, height in stairs(row)]
            for place in places_of(row)[1:]:
                if pair(place) not in starts:
                    self.same(depth_of(row, place) + depth_of(row, 1 - place), row.excess + row.height)

    def test_the_errors_of_a_generator_come_with_its_first_element(self):
        for value in NO_ROWS:
            made = each_stair(value)
            self.refused(InvalidRow, next, made)

    def test_stair_of(self):
        for row in ROWS:
            told = list(each_stair(row))
            for ratio in [pair(place) for place in PLACES if place < 1] + [(1, LONG), (LONG - 1, LONG)]:
                wanted = [stair for stair in told if fraction(stair[0]) <= fraction(ratio) < fraction(stair[1])]
                self.same(stair_of(row, ratio), wanted[0])
            for start, end, height in told:
                self.same(stair_of(row, start), (start, end, height))

    def test_stair_of_refuses(self):
        self.refused_each(InvalidRow, stair_of, NO_ROWS, (1, 2))
        self.refused_each(InvalidRatio, lambda ratio: stair_of(MIDDLE, ratio), NO_RATIOS)
        self.refused_each(InvalidOperation, lambda ratio: stair_of(MIDDLE, ratio),
                          ((1, 1), (-1, 2), (3, 2), (LONG, 1), (-1, LONG), (LONG, LONG - 1)))
        self.refused(InvalidRow, stair_of, (), (3, 2))
        self.refused(InvalidRow, stair_of, (), (2, 4))
        self.refused(InvalidRatio, stair_of, MIDDLE, (4, 2))

    def test_stairs_at(self):
        for row in ROWS:
            for number in range(-9, 10):
                wanted = tuple((start, end) for start, end, height in each_stair(row) if height == number)
                self.same(stairs_at(row, number), wanted)
        self.same([stairs_at(MIDDLE, LONG), stairs_at(MIDDLE, -LONG)], [(), ()])

    def test_stairs_at_refuses(self):
        self.refused_each(InvalidRow, stairs_at, NO_ROWS, 0)
        self.refused_each(InvalidNumber, lambda number: stairs_at(MIDDLE, number), NO_INTEGERS)
        self.refused(InvalidRow, stairs_at, 1, None)

    def test_least_and_greatest(self):
        for row in ROWS:
            heights = [depth_of(row, place) for place in places_of(row)]
            self.same((least_depth(row), greatest_depth(row)), (min(heights), max(heights)))

    def test_lengths(self):
        for row in ROWS:
            wanted = {}
            for place in places_of(row):
                height = depth_of(row, place)
                wanted[height] = wanted.get(height, 0) + Fraction(1, row.common)
            self.same(lengths(row), {height: pair(wanted[height]) for height in sorted(wanted)})
            total = sum(height * fraction(length) for height, length in lengths(row).items())
            self.assertEqual(total, Fraction(row.excess + row.height, 2))

    def test_a_new_dict_each_time(self):
        lengths(MIDDLE)[0] = None
        self.same(lengths(MIDDLE), {0: (1, 2), 1: (1, 2)})

    def test_functions_of_one_row_refuse(self):
        for action in (stairs, least_depth, greatest_depth, lengths):
            self.refused_each(InvalidRow, action, NO_ROWS)


class Back(Case):

    def test_rows_of_stairs(self):
        for row in ROWS:
            found = row_of_stairs(stairs(row))
            if row.is_balanced:
                self.assertTrue(found == row)
            elif found is not None:
                self.assertTrue(found.is_balanced and stairs(found) == stairs(row))

    def test_small_balanced_rows(self):
        for size in (1, 2):
            for bottoms in combinations_with_replacement(range(1, 9), size):
                for tops in combinations_with_replacement(range(1, 9), 2):
                    if sum(tops) == sum(bottoms) and sorted(tops) != sorted(bottoms):
                        row = Quotient(tops, bottoms)
                        self.assertTrue(row_of_stairs(stairs(row)) == row)

    def test_the_balanced_row_of_a_row_that_is_not(self):
        self.assertTrue(row_of_stairs(stairs(Quotient((2,), (1,)))) == MIDDLE)

    def test_no_row(self):
        for value in ((FIRST,), (FIRST, ((1, 2), 0)), (FIRST, ((1, 3), 1)), (FIRST, ((1, 2), 1), ((2, 3), 0)),
                      (FIRST, ((1, 61), 1)), (FIRST, ((1, LONG), 1)), (FIRST, ((1, 2), LONG)),
                      (FIRST, ((1, 2), -LONG)), (FIRST, ((1, 2), 9)), (FIRST, ((1, 3), 1), ((2, 3), 1)),
                      (FIRST, ((1, 4), 1), ((1, 3), 0), ((2, 3), -1)), stairs(CHEBYSHEV)[:-1],
                      (FIRST, ((1, 59), 1)), stairs(MIDDLE) + (((2, 3), 1),)):
            self.assertIsNone(row_of_stairs(value))
        stretched = tuple(((k, 2000), k % 2) for k in range(1, 2000, 2) if k % 5)
        self.assertIsNone(row_of_stairs((FIRST,) + stretched))

    def test_the_most_stairs(self):
        ones = tuple(((1, 4000 - k), 1) for k in range(1, 2000))
        self.assertIsNone(row_of_stairs((FIRST,) + ones))
        self.refused(InvalidOperation, row_of_stairs, (FIRST,) + ones + (((1, 2000), 2),))

    def test_it_refuses(self):
        half = ((1, 2), 1)
        self.refused_each(InvalidOperation, row_of_stairs, NO_ROWS + (
            (half,), (FIRST, FIRST), (FIRST, half, half), (FIRST, ((2, 3), 1), half), [FIRST, half], (FIRST, None),
            (FIRST, ((1, 1), 1)), (FIRST, ((3, 2), 1)), (FIRST, ((-1, 2), 1)), (FIRST, ((2, 4), 1)), (((0, 1), 1),),
            (((0, 1), False),), (((0, 1), 0), ((1, 2), True)), (((0, True), 0),), (FIRST, ((1, 2), None)),
            (FIRST, [(1, 2), 1]), (FIRST, ((1, 2), 1, 1)), (FIRST, (1, 2)), (FIRST, ((1, 2), 10 ** 60)),
            (FIRST, ((1, 10 ** 60), 1)), (((0, 2), 0),), ((0, 1), 0), FIRST, (((1, 2), 0),), (((0, 1), 0, 0),)))


class NotTrue(Case):

    def test_what_is_not_true(self):
        self.assertTrue(stairs(MIDDLE) == stairs(Quotient((2,), (1,))))
        self.assertNotIn((1, 2), [start for start, height in stairs(BROKEN)])
        self.same((BROKEN.height, greatest_depth(BROKEN)), (0, 1))

    def test_great_rows(self):
        for row in (GREATEST, GREAT, Quotient((60,), ()), Quotient((), (60,)), FIVE, TURNED):
            self.same(len(stairs(row)), len(plain_stairs(row)))
