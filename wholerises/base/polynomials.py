"""Polynomials: tuples of integers, the one with the index i is the multiple of x ** i."""

from wholerises.base.numbers import check_number, is_integer, sign_divisors, totient
from wholerises.base.ratios import check_ratio, reduced
from wholerises.errors import InvalidOperation, InvalidPolynomial, TooMany

MAX_DEGREE = 40
MAX_CYCLOTOMIC = 2520
# No product of cyclotomic polynomials of a degree of at most 40 has greater integers: C(40, 20) is less.
MOST_ITEM = 2 ** 40
PLACE = 42
# All cyclotomic polynomials of a degree of at most 40: the number, the degree, and the value at 2.
CYCLOTOMIC = (
    (1, 1, 1), (2, 1, 3), (3, 2, 7), (4, 2, 5), (6, 2, 3), (5, 4, 31), (8, 4, 17), (10, 4, 11), (12, 4, 13),
    (7, 6, 127), (9, 6, 73), (14, 6, 43), (18, 6, 57), (15, 8, 151), (16, 8, 257), (20, 8, 205), (24, 8, 241),
    (30, 8, 331), (11, 10, 2047), (22, 10, 683), (13, 12, 8191), (21, 12, 2359), (26, 12, 2731), (28, 12, 3277),
    (36, 12, 4033), (42, 12, 5419), (17, 16, 131071), (32, 16, 65537), (34, 16, 43691), (40, 16, 61681),
    (48, 16, 65281), (60, 16, 80581), (19, 18, 524287), (27, 18, 262657), (38, 18, 174763), (54, 18, 261633),
    (25, 20, 1082401), (33, 20, 599479), (44, 20, 838861), (50, 20, 1016801), (66, 20, 1397419), (23, 22, 8388607),
    (46, 22, 2796203), (35, 24, 8727391), (39, 24, 9588151), (45, 24, 14709241), (52, 24, 13421773),
    (56, 24, 15790321), (70, 24, 24214051), (72, 24, 16773121), (78, 24, 22366891), (84, 24, 20647621),
    (90, 24, 18837001), (29, 28, 536870911), (58, 28, 178956971), (31, 30, 2147483647), (62, 30, 715827883),
    (51, 32, 2454285751), (64, 32, 4294967297), (68, 32, 3435973837), (80, 32, 4278255361), (96, 32, 4294901761),
    (102, 32, 5726579371), (120, 32, 4562284561), (37, 36, 137438953471), (57, 36, 39268347319),
    (63, 36, 60247241209), (74, 36, 45812984491), (76, 36, 54975581389), (108, 36, 68719214593),
    (114, 36, 91625794219), (126, 36, 77158673929), (41, 40, 2199023255551), (55, 40, 567767102431),
    (75, 40, 1065184428001), (82, 40, 733007751851), (88, 40, 1034834473201), (100, 40, 1098438933505),
    (110, 40, 1598509118371), (132, 40, 1353244757701), (150, 40, 1133836730401))


def is_polynomial(value):
    """Whether the value is a polynomial."""
    if not isinstance(value, tuple) or not 1 <= len(value) <= MAX_DEGREE + 1:
        return False
    if not all([is_integer(item) for item in value]):
        return False
    return len(value) == 1 or value[-1] != 0


def check_polynomial(polynomial):
    """Raises InvalidPolynomial unless a polynomial is given."""
    if not is_polynomial(polynomial):
        raise InvalidPolynomial("no polynomial")


def check_polynomials(one, other):
    """Raises InvalidPolynomial for the first one that is no polynomial."""
    check_polynomial(one)
    check_polynomial(other)


def trimmed(items):
    """The tuple of the integers without the last ones that are 0; one is left in any case."""
    many = len(items)
    while many > 1 and items[many - 1] == 0:
        many = many - 1
    return tuple(items[:many])


def polynomial_sum(one, other):
    """The sum of two polynomials."""
    check_polynomials(one, other)
    total = [0] * max(len(one), len(other))
    for index, item in enumerate(one):
        total[index] = total[index] + item
    for index, item in enumerate(other):
        total[index] = total[index] + item
    return trimmed(total)


def polynomial_product(one, other):
    """The product of two polynomials."""
    check_polynomials(one, other)
    total = [0] * (len(one) + len(other) - 1)
    for index, item in enumerate(one):
        for place, factor in enumerate(other):
            total[index + place] = total[index + place] + item * factor
    product = trimmed(total)
    if len(product) > MAX_DEGREE + 1:
        raise TooMany(MAX_DEGREE)
    return product


def polynomial_quotient(one, other):
    """The polynomial whose product with the second one is the first one, or None if there is none."""
    check_polynomials(one, other)
    if other == (0,):
        raise InvalidOperation("nothing is divided by 0")
    return divided(one, other)


def divided(one, other):
    """The quotient of two polynomials with integers of any size, or None; the second one is not zero."""
    if len(one) < len(other):
        return one if one == (0,) else None
    rest = list(one)
    quotient = [0] * (len(one) - len(other) + 1)
    for index in reversed(range(len(quotient))):
        factor = rest[index + len(other) - 1] // other[-1]
        quotient[index] = factor
        for place, item in enumerate(other):
            rest[index + place] = rest[index + place] - factor * item
    return None if any(rest) else tuple(quotient)


def polynomial_value(polynomial, ratio):
    """The value of the polynomial at a fraction."""
    check_polynomial(polynomial)
    check_ratio(ratio)
    top, bottom = ratio
    total = 0
    scale = 1
    for item in polynomial[::-1]:
        total = total * top + item * scale
        scale = scale * bottom
    return reduced(total * bottom, scale)


def cyclotomic(number):
    """The cyclotomic polynomial of the number."""
    check_number(number, 1, MAX_CYCLOTOMIC)
    if totient(number) > MAX_DEGREE:
        raise TooMany(MAX_DEGREE)
    return cyclotomic_product({number: 1})


def cyclotomic_product(parts):
    """The product of cyclotomic polynomials, of any degree, told by a dict like that of `cyclotomic_parts`."""
    degree = 0
    powers = {}
    for number, times in parts.items():
        degree = degree + totient(number) * times
        for divisor, sign in sign_divisors(number):
            powers[divisor] = powers.get(divisor, 0) + sign * times
    # The factors x ** d - 1 are taken as 1 - x ** d: their signs cancel, but for those of the number 1.
    items = [1] + [0] * degree
    for divisor, power in powers.items():
        items = with_factors(items, divisor, power)
    return tuple(items) if parts.get(1, 0) % 2 == 0 else tuple([-item for item in items])


def with_factors(items, divisor, power):
    """A power series, multiplied by a power of 1 - x ** divisor, also by one below 0."""
    made = list(items)
    for _ in range(power):
        for index in reversed(range(divisor, len(made))):
            made[index] = made[index] - made[index - divisor]
    for _ in range(-power):
        for index in range(divisor, len(made)):
            made[index] = made[index] + made[index - divisor]
    return made


def cyclotomic_parts(polynomial):
    """The dict from the numbers of the cyclotomic factors to how often each one is a factor, or None."""
    check_polynomial(polynomial)
    if polynomial[-1] != 1 or abs(polynomial[0]) != 1 or max([abs(item) for item in polynomial]) > MOST_ITEM:
        return None
    told = value_at_power(polynomial, 1)
    # As no integer is greater, the value at this place tells all of them, and divisors of it tell factors.
    rest = value_at_power(polynomial, PLACE)
    found = {}
    for number, degree, value in CYCLOTOMIC:
        if rest == 1 or degree >= len(polynomial):
            break
        if told % value == 0:
            times, rest = taken_out(rest, cyclotomic_value(number))
            if times > 0:
                found[number] = times
    return {number: found[number] for number in sorted(found)} if rest == 1 else None


def value_at_power(polynomial, power):
    """The value of the polynomial at 2 ** power."""
    total = 0
    for item in polynomial[::-1]:
        total = (total << power) + item
    return total


def cyclotomic_value(number):
    """The value of the cyclotomic polynomial of the number at 2 ** PLACE."""
    top = 1
    bottom = 1
    for divisor, sign in sign_divisors(number):
        if sign == 1:
            top = top * ((1 << PLACE * divisor) - 1)
        else:
            bottom = bottom * ((1 << PLACE * divisor) - 1)
    return top // bottom


def taken_out(number, factor):
    """How often a factor above 1 divides an integer other than 0, and what is left without it."""
    times = 0
    rest = number
    while rest % factor == 0:
        times = times + 1
        rest = rest // factor
    return times, rest
