"""Tables as sums of squares: which tables are kept, and where the values of the kept table are low."""

from wholerises.base.numbers import is_integer, is_long_integer
from wholerises.base.tables import echelon, exchanged_table, kernel_of, minors, product_of, unit_table
from wholerises.errors import InvalidOperation, InvalidTable
from wholerises.kept.companions import MOST_DEGREE, kept_table


def is_square(value):
    """Whether the value is a tuple of one to eight tuples of as many integers."""
    if not isinstance(value, tuple) or not 1 <= len(value) <= MOST_DEGREE:
        return False
    if not all([isinstance(line, tuple) and len(line) == len(value) for line in value]):
        return False
    return all([is_integer(item) for line in value for item in line])


def check_squares(table, other):
    """Raises InvalidTable for the first one that is no table."""
    if not is_square(table) or not is_square(other):
        raise InvalidTable("no table")


def back_table(table):
    """The table whose product with the table is the unit table."""
    check_squares(table, table)
    size = len(table)
    unit = unit_table(size)
    lines = echelon([line + behind for line, behind in zip(table, unit)])
    if tuple([line[:size] for line in lines]) != unit:
        raise InvalidOperation("the determinant is neither 1 nor -1")
    return tuple([line[size:] for line in lines])


def does_keep(table, other):
    """Whether the table keeps the other one."""
    check_squares(table, other)
    if len(table) != len(other):
        raise InvalidOperation("the tables are not of one size")
    return product_of(product_of(exchanged_table(table), other), table) == other


def signs_of(table):
    """The numbers of the squares with 1, of those with -1, and of those that the sum of squares lacks."""
    check_squares(table, table)
    if exchanged_table(table) != table:
        raise InvalidOperation("the table is not symmetric")
    left = table
    before = 1
    above = 0
    below = 0
    while any([any(line) for line in left]):
        left = with_pivot(left)
        if left[0][0] > 0:
            above = above + 1
        else:
            below = below + 1
        pivot = abs(left[0][0])
        left = without_square(left, before)
        before = pivot
    return (above, below, len(left))


def with_pivot(table):
    """A symmetric table other than 0 with other letters, so that its first square is not missing."""
    size = len(table)
    places = [index for index in range(size) if table[index][index] != 0]
    if places:
        return with_first(table, places[0])
    # All squares are missing: that of the sum of two letters is told by their product.
    one, other = [(row, column) for row in range(size) for column in range(row) if table[row][column] != 0][0]
    added = [[item + more for item, more in zip(line, table[other])] if row == one else line
             for row, line in enumerate(table)]
    return with_first([[item + line[other] if column == one else item for column, item in enumerate(line)]
                       for line in added], one)


def with_first(table, place):
    """The table with the letter of this place ahead of the others."""
    order = [place] + [index for index in range(len(table)) if index != place]
    return [[table[row][column] for column in order] for row in order]


def without_square(table, before):
    """What is left of a sum of squares without its first square, multiplied by a number above 0."""
    pivot = table[0][0]
    sign = 1 if pivot > 0 else -1
    return [[(sign * (pivot * item - line[0] * first)) // before for item, first in zip(line[1:], table[0][1:])]
            for line in table[1:]]


def is_definite(table):
    """Whether all values but that at 0 are above 0, or all are below 0."""
    above, below, missing = signs_of(table)
    return len(table) in (above, below)


def low_row(row):
    """A tuple of integers, not all 0, at which the value of the kept table is at most 0; None if it is definite."""
    table = kept_table(row)
    size = len(table)
    for many, minor in enumerate(minors(table)):
        if minor <= 0:
            # The last letter, and others so that its products with all of them are 0: the first such minor tells
            # the sign of the value there.
            found = kernel_of([line[:many + 1] for line in table[:many]], many + 1)[0]
            return found + (0,) * (size - many - 1)
    return None


def value_at(table, column):
    """The value of a table."""
    total = 0
    for line, item in zip(table, column):
        total = total + item * sum([entry * other for entry, other in zip(line, column)])
    return total


def is_low_row(row, value):
    """Whether the value is a tuple of integers, not all 0, at which the value of the kept table is at most 0."""
    table = kept_table(row)
    if not isinstance(value, tuple) or len(value) != len(table):
        return False
    if not all([is_long_integer(item) for item in value]) or not any(value):
        return False
    return value_at(table, value) <= 0
