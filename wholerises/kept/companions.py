"""The companions of a fit row, two matrices of integers, and the table that both keep."""

from wholerises.base.numbers import is_long_integer
from wholerises.base.polynomials import check_polynomial
from wholerises.base.tables import kernel_of
from wholerises.circle.products import ascending_places, degree_in, difference_of, parts_of, products_in
from wholerises.errors import InvalidOperation
from wholerises.row.quotients import check_row

MOST_DEGREE = 8


def companion(polynomial):
    """The companion of a polynomial."""
    check_polynomial(polynomial)
    if not 2 <= len(polynomial) <= MOST_DEGREE + 1 or polynomial[-1] != 1:
        raise InvalidOperation("the degree is not from 1 to 8, or the last coefficient is not 1")
    return companion_of(polynomial)


def companion_of(polynomial):
    """The companion of what is surely such a polynomial."""
    size = len(polynomial) - 1
    return tuple([tuple([1 if column == row - 1 else 0 for column in range(size - 1)] + [-polynomial[row]])
                  for row in range(size)])


def fit_products(row, most):
    """The pair of the products of a row; InvalidOperation unless it is balanced, of a degree from 1 to `most`."""
    check_row(row)
    counts = parts_of(row)
    if not row.is_balanced or not 1 <= degree_in(counts) <= most:
        raise InvalidOperation("the row is not balanced, or its degree is too great")
    return products_in(counts)


def companions(row):
    """The pair of the companions A and B."""
    one, other = fit_products(row, MOST_DEGREE)
    return companion_of(one), companion_of(other)


def step_table(row):
    """The table whose product with A ahead of it is B."""
    one, other = fit_products(row, MOST_DEGREE)
    size = len(one) - 1
    # A leads the last column of the step to that of B.
    last = other[0] * one[0]
    column = [last * one[index] - other[index] for index in range(1, size)] + [last]
    return tuple([tuple([1 if place == index else 0 for place in range(size - 1)] + [column[index]])
                  for index in range(size)])


def kept_line(row):
    """The first line of the kept table."""
    one, other = fit_products(row, MOST_DEGREE)
    return line_of(one, other, row.height % 2 == 1)


def line_of(one, other, is_odd):
    """The first line of the kept table of both products; whether the height is odd tells whether it is symmetric."""
    size = len(one) - 1
    lines = [] if is_odd else [[1] + [0] * (size - 1)]
    # The equations for j and for n - j are the same, since each product, read backward, is it or its opposite.
    for index in range(1, size // 2 + 1):
        lines = lines + [equation_at(one, index, is_odd), equation_at(other, index, is_odd)]
    return kernel_of(lines, size)[0]


def equation_at(polynomial, index, is_odd):
    """The multiples of t(0), .., t(n - 1) in the sum of p[k] t(index - k), which is 0."""
    line = [0] * (len(polynomial) - 1)
    for place, item in enumerate(polynomial):
        if place <= index or is_odd:
            line[abs(index - place)] = line[abs(index - place)] + item
        else:
            line[place - index] = line[place - index] - item
    return line


def kept_table(row):
    """The kept table."""
    return table_of(kept_line(row), row.height % 2 == 1)


def table_of(line, is_odd):
    """The symmetric or alternating table whose entries depend on the column less the row alone."""
    back = line if is_odd else [-item for item in line]
    size = len(line)
    return tuple([tuple([line[column - row] if column >= row else back[row - column] for column in range(size)])
                  for row in range(size)])


def is_kept(row, value):
    """Whether the value is a table, not all 0, that both companions keep."""
    table = kept_table(row)
    size = len(table)
    if not isinstance(value, tuple) or len(value) != size:
        return False
    if not all([isinstance(line, tuple) and len(line) == size for line in value]):
        return False
    if not all([is_long_integer(item) for line in value for item in line]) or not any([any(line) for line in value]):
        return False
    # Both keep just one table, up to factors: the value and the table are multiples of one another.
    lead = [item != 0 for item in table[0]].index(True)
    least, most = table[0][lead], value[0][lead]
    return all([item * least == kept * most for line, told in zip(value, table) for item, kept in zip(line, told)])


def sign_difference(row):
    """The difference of the numbers of both signs of the kept table, by the places."""
    fit_products(row, MOST_DEGREE)
    if row.height % 2 == 0:
        raise InvalidOperation("the height is even")
    return difference_of([part for place, part in ascending_places(row)])


def column_under(column, polynomial):
    """The product of the companion of a polynomial and a column."""
    last = column[-1]
    if last == 0:
        return (0,) + column[:-1]
    return tuple([before - item * last for before, item in zip((0,) + column[:-1], polynomial)])


def orbit_within(column, told, most):
    """The list of all columns to which the companions of both products lead a column, or None if there are more."""
    seen = {column: True}
    left = [column]
    while left:
        taken = left.pop()
        for polynomial in told:
            made = column_under(taken, polynomial)
            if made not in seen:
                if len(seen) == most:
                    return None
                seen[made] = True
                left.append(made)
    return list(seen)
