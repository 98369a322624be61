"""Equations: polynomials in two letters that become 0 with the power series of an algebraic row."""

from math import comb, lcm

from wholerises.base.numbers import check_number, is_between, is_integer, is_long_integer, power_of
from wholerises.base.polynomials import divided
from wholerises.base.ratios import reduced
from wholerises.circle.products import parts_of, products_in
from wholerises.errors import InvalidEquation, InvalidOperation, TooMany
from wholerises.kept.companions import orbit_within
from wholerises.row.quotients import MOST_FACTORIAL, check_row
from wholerises.stair.wholes import is_algebraic_row

MOST_Z = 3
MOST_Y = 6
MOST_SHEETS = 2000
MOST_SERIES = 60
MOST_ROOT = 24
# The rows that have an equation are these alone, told by their tops and bottoms; the triples (i, j, integer) tell their
# least equations. To find them anew in each call would take long.
LEAST_EQUATIONS = {
    ((2,), (1, 1)): ((0, 0, 1), (0, 2, -1), (1, 2, 4)),
    ((3,), (2, 1)): ((0, 0, 1), (0, 1, 3), (0, 3, -4), (1, 3, 27)),
    ((4,), (2, 2)): ((0, 2, -1), (0, 4, 1), (1, 0, 4), (1, 2, 16), (1, 4, -32), (2, 4, 256)),
    ((4,), (3, 1)): ((0, 0, 1), (0, 1, 8), (0, 2, 18), (0, 4, -27), (1, 4, 256)),
    ((5,), (4, 1)): ((0, 0, 1), (0, 1, 15), (0, 2, 80), (0, 3, 160), (0, 5, -256), (1, 5, 3125)),
    ((6,), (5, 1)): (
        (0, 0, 1), (0, 1, 24), (0, 2, 225), (0, 3, 1000), (0, 4, 1875), (0, 6, -3125), (1, 6, 46656)),
    ((6, 1), (3, 2, 2)): (
        (0, 0, 1), (0, 2, -9), (0, 4, 24), (0, 6, -16), (1, 0, -432), (1, 2, 972), (1, 4, -5184), (1, 6, 5184),
        (2, 0, 46656), (2, 4, 279936), (2, 6, -559872), (3, 6, 20155392)),
    ((6, 2), (4, 3, 1)): (
        (0, 4, -4), (0, 6, 4), (1, 0, 1), (1, 2, 27), (1, 4, 108), (1, 6, -216), (2, 6, 2916))}


def series(row, many):
    """The tuple of the numbers u(0) to u(many - 1), ratios."""
    check_row(row)
    check_number(many, 1, MOST_SERIES)
    if row.greatest * (many - 1) > MOST_FACTORIAL:
        raise TooMany(MOST_FACTORIAL)
    return tuple([row.value(number) for number in range(many)])


def sheets(row):
    """The sheets; 0 for a row that is not algebraic."""
    check_row(row)
    if not is_algebraic_row(row):
        return 0
    one, other = products_in(parts_of(row))
    # The companion of Q keeps what Q is without its factor x - 1.
    found = orbit_within(divided(other, (-1, 1)), (one, other), MOST_SHEETS)
    if found is None:
        raise TooMany(MOST_SHEETS)
    return len(found)


def numbers_to(row, many):
    """The list of the numbers u(0) to u(many - 1) of a whole row."""
    return [row.value(number)[0] for number in range(many)]


def multiples_of(numbers, scales):
    """The lists that tell the coefficients of a product with a series, by those of the other series.

    The integers of series are the coefficients, multiplied by the scales.
    """
    # If the last scale is 1, all of them are.
    if scales[-1] == 1:
        return [numbers[place::-1] for place in range(len(numbers))]
    return [[numbers[place - index] * (scales[place] // (scales[index] * scales[place - index]))
             for index in range(place + 1)] for place in range(len(numbers))]


def multiplied(coefficients, multiples):
    """The product of two series, one of which is told by such lists."""
    return [sum([item * factor for item, factor in zip(coefficients, line)]) for line in multiples]


def least_equation(row):
    """The least equation of the row, or None."""
    check_row(row)
    told = least_items(row)
    return None if told is None else {(i, j): item for i, j, item in told}


def least_items(row):
    """The triples of the least equation of the row, or None."""
    return LEAST_EQUATIONS.get((row.tops, row.bottoms))


def equation_of(row):
    """An equation of the row, or None."""
    return least_equation(row)


def each_equation(row):
    """Yields the least equation, multiplied by the powers of y, as long as no degree is too great."""
    check_row(row)
    told = least_items(row)
    if told is not None:
        for power in range(MOST_Y + 1 - leaves_of(told)):
            yield {(i, j + power): item for i, j, item in told}


def leaves_of(told):
    """The sheets of the row with a least equation that is told by triples: its degree in y."""
    return max([j for i, j, item in told])


def is_exponent_pair(value):
    """Whether the value is a pair of the exponents of z and y."""
    if not isinstance(value, tuple) or len(value) != 2:
        return False
    return is_between(value[0], 0, MOST_Z) and is_between(value[1], 0, MOST_Y)


def is_long_equation(value):
    """Whether the value is a dict that tells a polynomial in two letters, with integers of any size."""
    if not isinstance(value, dict) or not all([is_exponent_pair(pair) for pair in value]):
        return False
    return all([is_long_integer(item) for item in value.values()]) and any(list(value.values()))


def check_equation(equation):
    """Raises InvalidEquation unless a polynomial in two letters is given."""
    if not is_long_equation(equation) or not all([is_integer(item) for item in equation.values()]):
        raise InvalidEquation("no polynomial in two letters")


def is_equation(row, value):
    """Whether the value is an equation of the row."""
    check_row(row)
    if not is_long_equation(value):
        return False
    least = least_items(row)
    if least is None:
        return False
    told = [(i, j) for i, j in value if value[(i, j)] != 0]
    many = told_by(max([i for i, j in told]), max([j for i, j in told]), leaves_of(least))
    return not any(defect_of(numbers_to(row, many), [1] * many, value))


def told_by(degree_z, degree_y, leaves):
    """How many first coefficients of a defect, being 0, tell that it is 0, for a row with so many sheets."""
    return leaves * (2 * degree_z + degree_y) // 2 + 1


def defect_of(numbers, scales, equation):
    """The first coefficients of the defect, multiplied by the scales, for a series that is told likewise."""
    many = len(numbers)
    multiples = multiples_of(numbers, scales)
    total = [0] * many
    for power in reversed(range(MOST_Y + 1)):
        if any(total):
            total = multiplied(total, multiples)
        for i in range(min(many, MOST_Z + 1)):
            total[i] = total[i] + equation.get((i, power), 0) * scales[i]
    return total


def scales_of(told):
    """The least integers above 0 that make integers of all ratios and of the coefficients of powers of the series."""
    scales = [1]
    for place in range(1, len(told)):
        scale = told[place][1]
        for index in range(1, place // 2 + 1):
            product = scales[index] * scales[place - index]
            if scale % product != 0:
                scale = lcm(scale, product)
        scales.append(scale)
    return scales


def defect(row, equation, many):
    """The tuple of the first coefficients of the defect, ratios."""
    check_row(row)
    check_equation(equation)
    told = series(row, many)
    scales = scales_of(told)
    numbers = [top * (scale // bottom) for (top, bottom), scale in zip(told, scales)]
    return tuple([reduced(item, scale) for item, scale in zip(defect_of(numbers, scales, equation), scales)])


def at_one(equation):
    """The dict of the polynomial that the equation becomes with y + 1 in the place of y."""
    moved = {}
    for (i, j), item in equation.items():
        for power in range(j + 1):
            moved[(i, power)] = moved.get((i, power), 0) + item * comb(j, power)
    return moved


def root_of(equation, many):
    """The tuple of the first coefficients of the root, ratios."""
    check_equation(equation)
    check_number(many, 1, MOST_ROOT)
    moved = at_one(equation)
    slope = moved.get((0, 1), 0)
    if moved.get((0, 0), 0) != 0 or slope == 0:
        raise InvalidOperation("the polynomial has no such root")
    # With slope ** 2 * z in the place of z, and with slope * y, all is divisible by slope ** 2: the root is whole.
    terms = [(i, j, item * power_of(slope, 2 * i + j - 2))
             for (i, j), item in moved.items() if item != 0 and 2 * i + j >= 2]
    whole = whole_root(terms, many)
    return ((1, 1),) + tuple([reduced(whole[place], power_of(slope, 2 * place - 1)) for place in range(1, many)])


def whole_root(terms, many):
    """The first coefficients of the series without the coefficient 0 that is less than 0 by all terms put to it."""
    most = max([j for i, j, item in terms] + [1])
    powers = [[1] + [0] * (many - 1)] + [[0] * many for _ in range(most)]
    for place in range(1, many):
        for power in range(2, most + 1):
            powers[power][place] = sum(
                [powers[1][index] * powers[power - 1][place - index] for index in range(1, place)])
        powers[1][place] = -sum([item * powers[j][place - i] for i, j, item in terms if i <= place])
    return powers[1]
