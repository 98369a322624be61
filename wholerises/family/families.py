"""Families: all algebraic rows of a degree, and which of them are members of the three families."""

from math import gcd

from wholerises.base.numbers import check_number
from wholerises.errors import InvalidOperation, UnknownName
from wholerises.row.quotients import MAX_MEMBER, Quotient, check_row, counted, does_tell_row, row_of_members, sides_of
from wholerises.stair.wholes import is_algebraic_row

FAMILIES = ("one", "three", "two")
MOST_DEGREE = 8
# The algebraic rows in no family by their degrees, told by their tops and bottoms. There are no others of these
# degrees, and to find them anew in each call would take long.
APART_SIDES = {
    4: (((12, 1), (6, 4, 3)), ((12, 3, 2), (6, 6, 4, 1))),
    6: (((9, 1), (5, 3, 2)), ((9, 2), (6, 4, 1)), ((9, 4), (8, 3, 2)), ((12, 1), (8, 3, 2)), ((12, 3), (6, 5, 4)),
        ((12, 3), (8, 6, 1)), ((12, 5), (10, 4, 3)), ((18, 1), (9, 6, 4)), ((18, 4, 3), (9, 8, 6, 2)),
        ((18, 5, 3), (10, 9, 6, 1))),
    7: (((10, 6), (9, 5, 2)), ((10, 6, 1), (7, 5, 3, 2)), ((12, 2), (7, 4, 3)), ((12, 2), (9, 4, 1)),
        ((14, 1), (7, 5, 3)), ((14, 3), (9, 7, 1)), ((14, 6, 4), (12, 7, 3, 2)), ((18, 2), (9, 6, 5)),
        ((18, 3, 2), (9, 7, 6, 1)), ((18, 4), (12, 9, 1))),
    8: (((15, 1), (8, 5, 3)), ((15, 1), (9, 5, 2)), ((15, 2), (10, 4, 3)), ((15, 2), (10, 6, 1)),
        ((15, 4), (8, 6, 5)), ((15, 4), (12, 5, 2)), ((15, 6, 1), (12, 5, 3, 2)), ((15, 7), (14, 5, 3)),
        ((20, 1), (10, 7, 4)), ((20, 1), (10, 8, 3)), ((20, 3), (10, 9, 4)), ((20, 3), (12, 10, 1)),
        ((20, 3, 2), (10, 8, 6, 1)), ((20, 6, 1), (12, 10, 3, 2)), ((20, 7, 2), (14, 10, 4, 1)),
        ((20, 9, 6), (18, 10, 4, 3)), ((24, 1), (12, 8, 5)), ((24, 2), (12, 8, 6)), ((24, 4, 1), (12, 8, 7, 2)),
        ((24, 4, 3), (12, 9, 8, 2)), ((24, 5, 2), (12, 10, 8, 1)), ((24, 6, 4), (12, 12, 8, 2)),
        ((24, 7, 4), (14, 12, 8, 1)), ((24, 9, 6, 4), (18, 12, 8, 3, 2)), ((30, 1), (15, 10, 6)),
        ((30, 3, 2), (15, 10, 6, 4)), ((30, 5, 3), (15, 10, 7, 6)), ((30, 5, 3), (15, 12, 10, 1)),
        ((30, 5, 3, 2), (15, 10, 8, 6, 1)), ((30, 5, 4), (15, 10, 8, 6)), ((30, 5, 4), (15, 12, 10, 2)),
        ((30, 9, 5), (18, 15, 10, 1)))}


def is_algebraic(row):
    """Whether the row is balanced and whole, and its height is 1."""
    check_row(row)
    return is_algebraic_row(row)


def is_apart(row):
    """Whether the row is algebraic and in no family."""
    return is_algebraic(row) and not families_of(row)


def family_counts(name, one, other):
    """The members, counted as by the property of a row, of a and b in a family."""
    if name == "one":
        return counted((one + other,), (one, other))
    if name == "two":
        return counted((2 * one, other), (one, 2 * other, one - other))
    return counted((2 * one, 2 * other), (one, other, one + other))


def families_of(row):
    """The ascending tuple of all triples (name, a, b) whose row is the row."""
    check_row(row)
    half = row.greatest // 2
    told = []
    if len(row.bottoms) == 2:
        told.append(("one", row.bottoms[0], row.bottoms[1]))
    # In both other families 2 * a is the greatest. Of "three" b is never taken out of the bottoms; of "two" it is
    # taken out of the tops just if it is half of a.
    told = told + [("three", half, other) for other in sorted(set(row.bottoms)) if other <= half]
    told = told + [("two", half, other) for other in sorted(set(row.tops + (half // 2,))) if 0 < other < half]
    members = row.members
    return tuple([triple for triple in told if family_counts(triple[0], triple[1], triple[2]) == members])


def check_name(name):
    """Raises UnknownName unless the name of a family is given."""
    if not isinstance(name, str) or name not in FAMILIES:
        raise UnknownName(name)


def told_counts(name, one, other):
    """The members of the row of the family with a and b; raises the errors of what tells none."""
    check_name(name)
    check_number(one, 1, MAX_MEMBER - 1)
    check_number(other, 1, MAX_MEMBER - 1)
    if one < other or (name == "two" and one == other):
        raise InvalidOperation("the first integer is too small")
    counts = family_counts(name, one, other)
    if not does_tell_row(counts):
        raise InvalidOperation("this is no quotient row")
    return counts


def family_row(name, one, other):
    """The row of the family with a and b."""
    return row_of_members(told_counts(name, one, other))


def family_degree(name, one, other):
    """The degree of the row of the family with a and b."""
    told_counts(name, one, other)
    return degree_told(name, one, other)


def degree_told(name, one, other):
    """The degree of what surely is a row of the family."""
    divisor = gcd(one, other)
    if name == "one":
        return one + other - divisor
    degree = one if name == "two" else one + other
    return degree - divisor if one // divisor % 2 == 1 and other // divisor % 2 == 1 else degree


def family_members(name, degree):
    """The ascending tuple of all pairs (a, b) whose row in the family has the degree."""
    check_name(name)
    check_number(degree, 1, MOST_DEGREE)
    return tuple(members_told(name, degree))


def members_told(name, degree):
    """The list of all such pairs."""
    least = 1 if name == "two" else 0
    # The degree is more than half of a in each family.
    return [(one, other) for one in range(1, 2 * degree + 1) for other in range(1, one + 1 - least)
            if degree_told(name, one, other) == degree and does_tell_row(family_counts(name, one, other))]


def rows_of_degree(degree):
    """The tuple of all algebraic rows of the degree, ascending by their tops and bottoms."""
    check_number(degree, 1, MOST_DEGREE)
    return rows_told(degree)


def rows_told(degree):
    """All algebraic rows of what is surely such a degree."""
    told = {sides: True for sides in APART_SIDES.get(degree, ())}
    for name in FAMILIES:
        for one, other in members_told(name, degree):
            tops, bottoms = sides_of(family_counts(name, one, other))
            told[(tops[::-1], bottoms[::-1])] = True
    return tuple([Quotient(tops, bottoms) for tops, bottoms in sorted(told)])


def apart_rows(degree):
    """The tuple of the algebraic rows of the degree that are in no family, in the same order."""
    check_number(degree, 1, MOST_DEGREE)
    return tuple([Quotient(tops, bottoms) for tops, bottoms in APART_SIDES.get(degree, ())])


def each_algebraic(most):
    """Yields the algebraic rows of the degrees from 1 to `most`, by degrees and then in the order of the tuples."""
    check_number(most, 1, MOST_DEGREE)
    for degree in range(1, most + 1):
        for row in rows_told(degree):
            yield row
