"""Tables: tuples of equally long rows of integers, taken as matrices."""

from math import lcm

from wholerises.base.numbers import check_number, divisor_of_all, is_integer
from wholerises.errors import InvalidOperation, InvalidTable

MAX_SIZE = 12
MAX_EXPONENT = 60


def is_table_row(value):
    """Whether the value is a tuple of 1 to 12 integers."""
    if not isinstance(value, tuple) or not 1 <= len(value) <= MAX_SIZE:
        return False
    return all([is_integer(item) for item in value])


def is_table(value):
    """Whether the value is a table."""
    if not isinstance(value, tuple) or not 1 <= len(value) <= MAX_SIZE:
        return False
    if not all([is_table_row(line) for line in value]):
        return False
    return all([len(line) == len(value[0]) for line in value])


def check_table(table):
    """Raises InvalidTable unless a table is given."""
    if not is_table(table):
        raise InvalidTable("no table")


def check_square(table):
    """Raises InvalidOperation unless the table has as many rows as columns."""
    if len(table) != len(table[0]):
        raise InvalidOperation("the table is not square")


def unit_table(size):
    """The square table with 1 where row and column have one index, and 0 elsewhere."""
    check_number(size, 1, MAX_SIZE)
    return tuple([tuple([1 if row == column else 0 for column in range(size)]) for row in range(size)])


def exchanged_table(table):
    """Rows and columns exchanged, for integers of any size."""
    return tuple([tuple([line[column] for line in table]) for column in range(len(table[0]))])


def scalar_product(one, other):
    """The sum of the products of two equally long rows, integer by integer."""
    return sum([item * factor for item, factor in zip(one, other)])


def product_of(one, other):
    """The product of two tables that fit, with integers of any size."""
    columns = exchanged_table(other)
    return tuple([tuple([scalar_product(line, column) for column in columns]) for line in one])


def table_product(one, other):
    """The product of two tables."""
    check_table(one)
    check_table(other)
    if len(one[0]) != len(other):
        raise InvalidOperation("the first table has not as many columns as the second one has rows")
    return product_of(one, other)


def table_power(table, exponent):
    """The power of a square table."""
    check_table(table)
    check_number(exponent, 0, MAX_EXPONENT)
    check_square(table)
    power = unit_table(len(table))
    square = table
    left = exponent
    while left > 0:
        if left % 2 == 1:
            power = product_of(power, square)
        left = left // 2
        # The last square is not wanted, and it would be the greatest one.
        if left > 0:
            square = product_of(square, square)
    return power


def turned_over(table):
    """The table with rows and columns exchanged."""
    check_table(table)
    return exchanged_table(table)


def rank(table):
    """The number of the columns less that of the rows of the kernel."""
    check_table(table)
    return len(table[0]) - len(kernel(table))


def kernel(table):
    """The kernel, an echelon, perhaps without rows."""
    check_table(table)
    return kernel_of(table, len(table[0]))


def kernel_of(table, width):
    """The kernel of rows of integers of any size, perhaps of no rows, each of them as long as the width tells."""
    lines = echelon(table)
    leads = [lead_of(line) for line in lines]
    return echelon([kernel_row(lines, leads, index, width) for index in range(width) if index not in leads])


def lead_of(line):
    """The index of the first integer other than 0 of a row that has one."""
    index = 0
    while line[index] == 0:
        index = index + 1
    return index


def kernel_row(lines, leads, free, width):
    """The row of the kernel of an echelon that has, of all indices but the leads, just at one no 0."""
    multiple = 1
    for line, lead in zip(lines, leads):
        multiple = lcm(multiple, line[lead])
    made = [0] * width
    made[free] = multiple
    for line, lead in zip(lines, leads):
        made[lead] = -line[free] * multiple // line[lead]
    return made


def echelon(table):
    """The echelon whose rows make just the rows that those of the table make, with integers of any size."""
    done = []
    left = [list(line) for line in table]
    for index in range(len(left[0]) if left else 0):
        found = [line for line in left if line[index] != 0]
        if found:
            pivot = simplest(found[0])
            left = [cleared(line, pivot, index) for line in left]
            done = [cleared(line, pivot, index) for line in done] + [pivot]
    return tuple([tuple(line) for line in done])


def simplest(line):
    """The row divided by its greatest common divisor, its lead above 0; a row of 0 only stays as it is."""
    divisor = divisor_of_all(line)
    if divisor == 0:
        return line
    if line[lead_of(line)] < 0:
        divisor = -divisor
    return [item // divisor for item in line]


def cleared(line, pivot, index):
    """The row with 0 at the index, by a multiple of the pivot, and without a common divisor."""
    if line[index] == 0:
        return line
    return simplest([item * pivot[index] - factor * line[index] for item, factor in zip(line, pivot)])


def determinant(table):
    """The determinant of a square table."""
    check_table(table)
    check_square(table)
    return determinant_of(table)


def minors(table):
    """The tuple of the determinants of the first k rows and columns of a square table, for k from 1 on."""
    check_table(table)
    check_square(table)
    return tuple([determinant_of([line[:size] for line in table[:size]]) for size in range(1, len(table) + 1)])


def determinant_of(lines):
    """The determinant of a square of integers of any size, without fractions: each division leaves no rest."""
    left = [list(line) for line in lines]
    sign = 1
    before = 1
    while len(left) > 1:
        places = [place for place, line in enumerate(left) if line[0] != 0]
        if not places:
            return 0
        if places[0] % 2 == 1:
            sign = -sign
        pivot = left[places[0]]
        others = left[:places[0]] + left[places[0] + 1:]
        left = [reduced_row(line, pivot, before) for line in others]
        before = pivot[0]
    return sign * left[0][0]


def reduced_row(line, pivot, before):
    """What is left of a row in one step of the determinant."""
    return [(pivot[0] * line[k] - line[0] * pivot[k]) // before for k in range(1, len(line))]


def is_symmetric(table):
    """Whether a square table is equal to the turned over one."""
    check_table(table)
    check_square(table)
    return exchanged_table(table) == table


def is_alternating(table):
    """Whether a square table is the opposite of the turned over one."""
    check_table(table)
    check_square(table)
    return exchanged_table(table) == tuple([tuple([-item for item in line]) for line in table])
