"""Groups: all products of the companions of a row and of their inverses, told by words."""

from math import lcm

from wholerises.base.numbers import is_integer, is_long_integer
from wholerises.base.polynomials import cyclotomic_parts
from wholerises.circle.products import ascending_places, difference_of
from wholerises.errors import InvalidOperation, InvalidTable
from wholerises.kept.companions import fit_products, orbit_within
from wholerises.row.quotients import check_row

MOST_LETTERS = 200
MOST_GROUPED = 4
MOST_WORD = 2000
MOST_ELEMENTS = 576
LETTERS = "aAbB"


def group_products(row):
    """The pair of the products of a row whose group is looked at; other rows are refused."""
    return fit_products(row, MOST_GROUPED)


def is_finite_group(row):
    """Whether the group is finite."""
    one, other = group_products(row)
    return is_finite_at(row, len(one) - 1)


def is_finite_at(row, degree):
    """Whether the kept table of a row is definite: whether its places alternate."""
    return row.height % 2 == 1 and difference_of([part for place, part in ascending_places(row)]) == degree


def finite_products(row):
    """The pair of the products of a row with a finite group; other rows are refused."""
    told = group_products(row)
    if not is_finite_at(row, len(told[0]) - 1):
        raise InvalidOperation("the group is not finite")
    return told


def line_behind(line, polynomial):
    """A line, multiplied by the companion of the polynomial."""
    return line[1:] + (-sum([item * factor for item, factor in zip(line, polynomial)]),)


def line_ahead(line, polynomial):
    """A line, multiplied by the inverse of the companion of the polynomial, whose first coefficient is 1 or -1."""
    others = sum([item * factor for item, factor in zip(line[:-1], polynomial[1:])])
    return (-polynomial[0] * (line[-1] + others),) + line[:-1]


def moved_line(line, told, letter):
    """A line, multiplied by the matrix of a letter."""
    polynomial = told[0] if letter in "aA" else told[1]
    return line_behind(line, polynomial) if letter in "ab" else line_ahead(line, polynomial)


def unit_matrix(size):
    """The unit matrix."""
    return tuple([tuple([1 if row == column else 0 for column in range(size)]) for row in range(size)])


def each_spelled(told):
    """Yields the pairs of all elements, each once, and of their words, by length, and by the order of the letters.

    Each word is the least one of its length: without its last letter it is the least one of another element.
    """
    first = unit_matrix(len(told[0]) - 1)
    seen = {first: True}
    moved = {}
    level = [(first, "")]
    while level:
        behind = []
        # A copy is walked, since what is gathered behind takes the place of the level.
        for matrix, word in list(level):
            yield (matrix, word)
            for line in matrix:
                if line not in moved:
                    moved[line] = [moved_line(line, told, letter) for letter in LETTERS]
            for place, letter in enumerate(LETTERS):
                made = tuple([moved[line][place] for line in matrix])
                if made not in seen:
                    seen[made] = True
                    behind.append((made, word + letter))
        level = behind


def group_size(row):
    """The number of elements, or None if the group is not finite."""
    told = group_products(row)
    if not is_finite_at(row, len(told[0]) - 1):
        return None
    return len([True for matrix, word in each_spelled(told)])


def each_element(row):
    """Yields all elements, each once, by their lengths, and those of one length by their least words."""
    told = group_products(row)
    for matrix, word in each_spelled(told):
        yield matrix


def is_word_like(value, most):
    """Whether the value is a word of so many letters at most."""
    return isinstance(value, str) and len(value) <= most and all([letter in LETTERS for letter in value])


def matrix_of_word(row, word):
    """The matrix of a word."""
    told = group_products(row)
    if not is_word_like(word, MOST_LETTERS):
        raise InvalidOperation("no word of at most 200 letters")
    return spelled(told, word)


def spelled(told, word):
    """The matrix that a word tells."""
    lines = []
    for line in unit_matrix(len(told[0]) - 1):
        left = line
        for letter in word:
            left = moved_line(left, told, letter)
        lines.append(left)
    return tuple(lines)


def check_matrix(matrix):
    """Raises InvalidTable unless a tuple of 1 to 4 tuples of as many integers of any size is given."""
    if not isinstance(matrix, tuple) or not 1 <= len(matrix) <= MOST_GROUPED:
        raise InvalidTable("no tuple of 1 to 4 lines")
    for line in matrix:
        if not isinstance(line, tuple) or len(line) != len(matrix) or not all([is_long_integer(item) for item in line]):
            raise InvalidTable("no line of as many integers")


def word_of(row, matrix):
    """A word of a matrix, or None if it is not in the group."""
    check_row(row)
    check_matrix(matrix)
    told = finite_products(row)
    check_size(told, matrix)
    for made, word in each_spelled(told):
        if made == matrix:
            return word
    return None


def check_size(told, matrix):
    """Raises InvalidOperation unless the matrix has the size of the group."""
    if len(matrix) != len(told[0]) - 1:
        raise InvalidOperation("the matrix has another size")


def is_word(row, matrix, value):
    """Whether the value is a word that tells the matrix."""
    check_row(row)
    check_matrix(matrix)
    told = group_products(row)
    check_size(told, matrix)
    return is_word_like(value, MOST_WORD) and spelled(told, value) == matrix


def order_counts(row):
    """The dict from the orders of elements to how many elements have them."""
    told = finite_products(row)
    found = {}
    for matrix, word in each_spelled(told):
        sign = sign_of_word(told, word)
        kind = (trace_of(matrix), second_of(matrix), sign)
        found[kind] = found.get(kind, 0) + 1
    counts = {}
    for (trace, second, sign), many in found.items():
        order = 1
        for number in cyclotomic_parts(characteristic(len(told[0]) - 1, trace, second, sign)):
            order = lcm(order, number)
        counts[order] = counts.get(order, 0) + many
    return {order: counts[order] for order in sorted(counts)}


def sign_of_word(told, word):
    """The determinant of the matrix that a word tells, 1 or -1."""
    one, other = told
    size = len(one) - 1
    sign = 1
    for polynomial, letters in ((one, "aA"), (other, "bB")):
        many = word.count(letters[0]) + word.count(letters[1])
        if many % 2 == 1:
            sign = sign * polynomial[0] * (1 if size % 2 == 0 else -1)
    return sign


def trace_of(matrix):
    """The trace of a matrix."""
    return sum([matrix[index][index] for index in range(len(matrix))])


def second_of(matrix):
    """The sum of the determinants of two lines of a matrix and of the same two columns."""
    total = 0
    for row in range(len(matrix)):
        for column in range(row):
            total = total + matrix[row][row] * matrix[column][column] - matrix[row][column] * matrix[column][row]
    return total


def characteristic(size, trace, second, sign):
    """The characteristic polynomial of an element of a finite group; `second` is wanted for the size 4 alone.

    Each eigenvalue comes with the one that undoes it, so the polynomial, read backward, is it or its opposite.
    """
    if size == 1:
        return (-sign, 1)
    if size == 2:
        return (sign, -trace, 1)
    if size == 3:
        return (-sign, sign * trace, -trace, 1)
    return (sign, -sign * trace, second, -trace, 1)


def reflections(row):
    """The ascending tuple of all reflections of a finite group."""
    told = finite_products(row)
    return tuple(sorted([matrix for matrix, word in each_spelled(told) if is_reflection(matrix)]))


def is_reflection(matrix):
    """Whether the matrix is a reflection."""
    size = len(matrix)
    if trace_of(matrix) != size - 2:
        return False
    differences = [[item - entry for item, entry in zip(line, unit)] for line, unit in zip(matrix, unit_matrix(size))]
    first = [line for line in differences if any(line)][0]
    lead = [item != 0 for item in first].index(True)
    # With lines that are multiples of one, the trace alone tells that the square is the unit matrix.
    return all([item * first[lead] == line[lead] * entry for line in differences for item, entry in zip(line, first)])


def orbit(row, vector):
    """The ascending tuple of the columns to which the elements of a finite group lead a column."""
    told = finite_products(row)
    size = len(told[0]) - 1
    if not isinstance(vector, tuple) or len(vector) != size or not all([is_integer(item) for item in vector]):
        raise InvalidOperation("no tuple of as many integers as the degree tells")
    return tuple(sorted(orbit_within(vector, told, MOST_ELEMENTS)))
