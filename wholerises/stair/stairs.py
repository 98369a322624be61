"""Stairs: the depth of a quotient row from 0 on and below 1."""

from wholerises.base.numbers import MAX_INTEGER, check_number, is_integer, sign_divisors, units_of
from wholerises.base.ratios import check_ratio, is_ratio, reduced
from wholerises.circle.products import parts_of
from wholerises.errors import InvalidOperation
from wholerises.row.quotients import MAX_COMMON, MAX_MEMBER, check_row, does_tell_row, row_of_members

MOST_STAIRS = 2000


def depth(row, ratio):
    """The depth of the row at a fraction of at least 0."""
    check_row(row)
    check_ratio(ratio)
    if ratio[0] < 0:
        raise InvalidOperation("there is no depth below 0")
    return depth_at(row, ratio)


def depth_at(row, ratio):
    """The depth at a ratio of integers of any size."""
    return sum([count * (member * ratio[0] // ratio[1]) for member, count in row])


def jump(row, number):
    """The number of the tops that the number divides, less the number of such bottoms."""
    check_row(row)
    check_number(number, 1, MAX_COMMON)
    return jump_of(row, number)


def jump_of(row, number):
    """The jump of any integer above 0."""
    return sum([count for member, count in row if member % number == 0])


def starts_of(row):
    """The list of the pairs (k, depth) of the stairs, which start at k / c, c being the common multiple."""
    common = row.common
    grown = {}
    for number, change in parts_of(row).items():
        # The jump of 1 stands at 1, behind the last stair.
        if number > 1:
            for unit in units_of(number):
                grown[unit * (common // number)] = change
    height = 0
    found = [(0, 0)]
    for start in sorted(grown):
        height = height + grown[start]
        found.append((start, height))
    return found


def stairs(row):
    """The ascending tuple of the pairs (start, depth) of all stairs."""
    check_row(row)
    common = row.common
    return tuple([(reduced(start, common), height) for start, height in starts_of(row)])


def each_stair(row):
    """Yields the triples (start, end, depth) of all stairs, ascending."""
    told = stairs(row)
    ends = [start for start, height in told[1:]] + [(1, 1)]
    for (start, height), end in zip(told, ends):
        yield (start, end, height)


def stair_of(row, ratio):
    """The triple of the stair in which a fraction of at least 0 and below 1 lies."""
    check_row(row)
    check_ratio(ratio)
    if not 0 <= ratio[0] < ratio[1]:
        raise InvalidOperation("the fraction is not at least 0 and below 1")
    behind = [stair for stair in each_stair(row) if ratio[0] * stair[1][1] < stair[1][0] * ratio[1]]
    return behind[0]


def stairs_at(row, number):
    """The ascending tuple of the pairs (start, end) of the stairs with this depth."""
    check_row(row)
    check_number(number, -MAX_INTEGER, MAX_INTEGER)
    return tuple([(start, end) for start, end, height in each_stair(row) if height == number])


def least_depth(row):
    """The least depth of a stair."""
    check_row(row)
    return min([height for start, height in starts_of(row)])


def greatest_depth(row):
    """The greatest depth of a stair."""
    check_row(row)
    return max([height for start, height in starts_of(row)])


def lengths(row):
    """The dict from each depth of a stair to the sum of the lengths of all stairs with this depth."""
    check_row(row)
    common = row.common
    told = starts_of(row)
    ends = [start for start, height in told[1:]] + [common]
    total = {}
    for (start, height), end in zip(told, ends):
        total[height] = total.get(height, 0) + end - start
    return {height: reduced(total[height], common) for height in sorted(total)}


def is_stair_pair(value):
    """Whether the value is a pair of a ratio below 1 and an integer."""
    if not isinstance(value, tuple) or len(value) != 2:
        return False
    return is_ratio(value[0]) and value[0][0] < value[0][1] and is_integer(value[1])


def are_stairs(value):
    """Whether the value is a tuple of such pairs from ((0, 1), 0) on, the ratios ascending as fractions."""
    if not isinstance(value, tuple) or not 1 <= len(value) <= MOST_STAIRS:
        return False
    if not all([is_stair_pair(pair) for pair in value]) or value[0] != ((0, 1), 0):
        return False
    for before, behind in zip(value, value[1:]):
        if before[0][0] * behind[0][1] >= behind[0][0] * before[0][1]:
            return False
    return True


def told_jumps(value):
    """The dict from the bottoms of the starts, as far as a row can have them, to the jumps that they tell."""
    jumps = {}
    for before, behind in zip(value, value[1:]):
        number = behind[0][1]
        if number <= MAX_MEMBER:
            jumps[number] = behind[1] - before[1]
    return jumps


def balanced_members(jumps):
    """The members of the balanced row with these jumps of the integers above 1."""
    found = {}
    for number, grown in jumps.items():
        for divisor, sign in sign_divisors(number):
            found[divisor] = found.get(divisor, 0) + sign * grown
    # The jump of 1 is not told by the stairs: the excess of 0 tells how often 1 is a member.
    found[1] = -sum([member * found[member] for member in found if member > 1])
    return {member: found[member] for member in sorted(found) if found[member] != 0}


def row_of_stairs(value):
    """The balanced row with these stairs, or None if there is none."""
    if not are_stairs(value):
        raise InvalidOperation("these are no stairs")
    members = balanced_members(told_jumps(value))
    if not does_tell_row(members):
        return None
    row = row_of_members(members)
    return row if stairs(row) == value else None
