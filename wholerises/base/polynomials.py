"""Polynomials: tuples of integers, the one with the index i is the multiple of x ** i."""

from wholerises.base.numbers import check_number, is_integer, moebius, units_of
from wholerises.base.ratios import check_ratio, reduced
from wholerises.errors import InvalidOperation, InvalidPolynomial, TooMany

MAX_DEGREE = 40
MAX_CYCLOTOMIC = 2520
# No cyclotomic polynomial of a greater number has a degree of at most 40.
LAST_CYCLOTOMIC = 150


def is_polynomial(value):
    """Whether the value is a polynomial."""
    if not isinstance(value, tuple) or not 1 <= len(value) <= MAX_DEGREE + 1:
        return False
    if not all([is_integer(item) for item in value]):
        return False
    return len(value) == 1 or value[-1] != 0


def check_polynomial(polynomial):
    """Raises InvalidPolynomial unless a polynomial is given."""
    if not is_polynomial(polynomial):
        raise InvalidPolynomial("no polynomial")


def check_polynomials(one, other):
    """Raises InvalidPolynomial for the first one that is no polynomial."""
    check_polynomial(one)
    check_polynomial(other)


def trimmed(items):
    """The tuple of the integers without the last ones that are 0; one is left in any case."""
    many = len(items)
    while many > 1 and items[many - 1] == 0:
        many = many - 1
    return tuple(items[:many])


def polynomial_sum(one, other):
    """The sum of two polynomials."""
    check_polynomials(one, other)
    total = [0] * max(len(one), len(other))
    for index, item in enumerate(one):
        total[index] = total[index] + item
    for index, item in enumerate(other):
        total[index] = total[index] + item
    return trimmed(total)


def polynomial_product(one, other):
    """The product of two polynomials."""
    check_polynomials(one, other)
    total = [0] * (len(one) + len(other) - 1)
    for index, item in enumerate(one):
        for place, factor in enumerate(other):
            total[index + place] = total[index + place] + item * factor
    product = trimmed(total)
    if len(product) > MAX_DEGREE + 1:
        raise TooMany(MAX_DEGREE)
    return product


def polynomial_quotient(one, other):
    """The polynomial whose product with the second one is the first one, or None if there is none."""
    check_polynomials(one, other)
    if other == (0,):
        raise InvalidOperation("nothing is divided by 0")
    return divided(one, other)


def divided(one, other):
    """The quotient of two polynomials with integers of any size, or None; the second one is not zero."""
    if len(one) < len(other):
        return one if one == (0,) else None
    rest = list(one)
    quotient = [0] * (len(one) - len(other) + 1)
    for index in reversed(range(len(quotient))):
        factor = rest[index + len(other) - 1] // other[-1]
        quotient[index] = factor
        for place, item in enumerate(other):
            rest[index + place] = rest[index + place] - factor * item
    return None if any(rest) else tuple(quotient)


def polynomial_value(polynomial, ratio):
    """The value of the polynomial at a fraction."""
    check_polynomial(polynomial)
    check_ratio(ratio)
    top, bottom = ratio
    total = 0
    scale = 1
    for item in polynomial[::-1]:
        total = total * top + item * scale
        scale = scale * bottom
    return reduced(total * bottom, scale)


def cyclotomic(number):
    """The cyclotomic polynomial of the number."""
    check_number(number, 1, MAX_CYCLOTOMIC)
    degree = len(units_of(number))
    if degree > MAX_DEGREE:
        raise TooMany(MAX_DEGREE)
    if number == 1:
        return (-1, 1)
    # Above 1 the factors x ** d - 1 can be taken as 1 - x ** d, for their signs cancel.
    items = [1] + [0] * degree
    for divisor in range(1, number + 1):
        if number % divisor == 0:
            items = with_factor(items, divisor, moebius(number // divisor))
    return tuple(items)


def with_factor(items, divisor, sign):
    """A power series, multiplied by 1 - x ** divisor for the sign 1, divided by it for the sign -1."""
    made = list(items)
    if sign == 1:
        for index in range(divisor, len(items)):
            made[index] = items[index] - items[index - divisor]
    if sign == -1:
        for index in range(divisor, len(items)):
            made[index] = items[index] + made[index - divisor]
    return made


def cyclotomic_parts(polynomial):
    """The dict from the numbers of the cyclotomic factors to how often each one is a factor, or None."""
    check_polynomial(polynomial)
    rest = polynomial
    parts = {}
    for number in range(1, LAST_CYCLOTOMIC + 1):
        if len(units_of(number)) < len(rest):
            times, rest = taken_out(rest, cyclotomic(number))
            if times > 0:
                parts[number] = times
    return parts if rest == (1,) else None


def taken_out(polynomial, factor):
    """How often a factor divides a polynomial of at least its degree, and what is left without it."""
    times = 0
    rest = polynomial
    quotient = divided(rest, factor)
    while quotient is not None:
        times = times + 1
        rest = quotient
        quotient = divided(rest, factor)
    return times, rest
