"""Operators of rising rows, their solutions modulo primes, and their p-curves."""

from wholerises.base.numbers import check_prime, inverse, is_long_integer, power_of
from wholerises.base.polynomials import trimmed
from wholerises.base.ratios import is_ratio, reduced
from wholerises.errors import InvalidOperation, TooMany
from wholerises.rise.risings import check_rising

MAX_CURVED = 31
MAX_SOLVED = 97
MAX_ORDER = 3
MOST_COEFFICIENTS = 100
MOST_SOLVED_DEGREE = 1000


def turns_at(fractions, common):
    """The list of the tops of fractions with the common bottom."""
    return [top * (common // bottom) for top, bottom in fractions]


def factors_of(rising):
    """The lists of the tops of all g - 1 and of all f with the common bottom of the row."""
    common = rising.common
    return [turn - common for turn in turns_at(rising.bottoms, common)], turns_at(rising.tops, common)


def linear_product(turns, unit):
    """The list of the coefficients of the product of all unit * X + turn."""
    made = [1]
    for turn in turns:
        made = [turn * item + unit * before for item, before in zip(made + [0], [0] + made)]
    return made


def operator(rising):
    """The pair of the product of all X + g - 1 and of that of all X + f: tuples of ratios."""
    check_rising(rising)
    bottom = power_of(rising.common, len(rising))
    one, other = factors_of(rising)
    return (tuple([reduced(item, bottom) for item in linear_product(one, rising.common)]),
            tuple([reduced(item, bottom) for item in linear_product(other, rising.common)]))


def product_at(turns, place):
    """The product of all integers of the list plus the place."""
    product = 1
    for turn in turns:
        product = product * (turn + place)
    return product


def applied(rising, coefficients):
    """The first coefficients of what the operator makes of a series with these first coefficients."""
    check_rising(rising)
    if not isinstance(coefficients, tuple) or not 1 <= len(coefficients) <= MOST_COEFFICIENTS:
        raise InvalidOperation("no tuple of 1 to 100 ratios")
    if not all([is_ratio(item) for item in coefficients]):
        raise InvalidOperation("not all are ratios")
    common = rising.common
    scale = power_of(common, len(rising))
    one, other = factors_of(rising)
    found = []
    before = (0, 1)
    for index, (top, bottom) in enumerate(coefficients):
        ahead = before[0] * product_at(other, (index - 1) * common)
        found.append(reduced(top * product_at(one, index * common) * before[1] - ahead * bottom,
                             bottom * before[1] * scale))
        before = (top, bottom)
    return tuple(found)


def check_good(rising, prime):
    """Raises the errors of what is no rising row, no prime, or a prime that is not good for the row."""
    check_rising(rising)
    check_prime(prime)
    if prime <= rising.common:
        raise InvalidOperation("the prime is not above the common bottom")


def residues_at(rising, prime):
    """The lists of the residues of all g - 1 and of all f."""
    undone = inverse(rising.common, prime)
    one, other = factors_of(rising)
    return [turn * undone % prime for turn in one], [turn * undone % prime for turn in other]


def ends_at(rising, prime):
    """The pair of the starts and of the ends, ascending tuples with repeats."""
    check_good(rising, prime)
    one, other = residues_at(rising, prime)
    return tuple(sorted([-residue % prime for residue in one])), tuple(sorted([-residue % prime for residue in other]))


def stretches(starts, ends, prime):
    """The list of the pairs (start, first end from it on) for all unlike starts, an end being None if it is too far.

    It is too far if another start comes ahead of it or stands there. Ends and starts go on beyond the prime.
    """
    unlike = sorted(set(starts))
    found = []
    for start, behind in zip(unlike, unlike[1:] + [unlike[0] + prime]):
        end = min([start + (end - start) % prime for end in ends])
        found.append((start, end if end < behind else None))
    return found


def is_flat(rising, prime):
    """Whether the row is flat at the prime."""
    starts, ends = ends_at(rising, prime)
    told = stretches(starts, ends, prime)
    return len(told) == len(starts) and all([end is not None for start, end in told])


def solutions(rising, prime):
    """The tuple of all solutions modulo the prime, ascending by their starts."""
    starts, ends = ends_at(rising, prime)
    if prime > MAX_SOLVED:
        raise TooMany(MAX_SOLVED)
    one, other = residues_at(rising, prime)
    told = [(start, end) for start, end in stretches(starts, ends, prime) if end is not None]
    return tuple([solution_between(start, end, one, other, prime) for start, end in told])


def solution_between(start, end, one, other, prime):
    """The solution from a start to an end."""
    items = [0] * start + [1]
    for place in range(start + 1, end + 1):
        item = items[-1] * product_at(other, place - 1) * inverse(product_at(one, place), prime)
        items.append(item % prime)
    return tuple(items)


def is_polynomial_modulo(value, prime):
    """Whether the value is a polynomial modulo the prime of a degree of at most 1000."""
    if not isinstance(value, tuple) or not 1 <= len(value) <= MOST_SOLVED_DEGREE + 1:
        return False
    if not all([is_long_integer(item) and 0 <= item < prime for item in value]):
        return False
    return len(value) == 1 or value[-1] != 0


def is_solution(rising, prime, value):
    """Whether the value is a polynomial modulo the prime of which the operator makes 0."""
    check_good(rising, prime)
    if not is_polynomial_modulo(value, prime):
        return False
    one, other = residues_at(rising, prime)
    before = 0
    for place, item in enumerate(value + (0,)):
        if (item * product_at(one, place) - before * product_at(other, place - 1)) % prime != 0:
            return False
        before = item
    return True


def p_curve(rising, prime):
    """The p-curve: a tuple of tuples of polynomials modulo the prime."""
    check_good(rising, prime)
    if prime > MAX_CURVED:
        raise TooMany(MAX_CURVED)
    size = len(rising)
    if size > MAX_ORDER:
        raise TooMany(MAX_ORDER)
    one, other = residues_at(rising, prime)
    last = list(zip(linear_product(other, 1), linear_product(one, 1)))[:size]
    return tuple([curve_line(index, last, prime) for index in range(size)])


def curve_line(index, last, prime):
    """One line of the p-curve; the pairs tell the last line of B: z times the first integers, less the second ones."""
    first = next_line([[1 if place == index else 0] for place in range(len(last))], last, 0, prime)
    line = first
    for times in range(1, prime):
        line = next_line(line, last, times, prime)
    return tuple([curved(item, begun, prime) for item, begun in zip(line, first)])


def next_line(line, last, times, prime):
    """One line of B(times + 1) without its divisor (1 - z) ** (times + 1), from that of B(times) without its own."""
    made = []
    ends = line[-1]
    ahead = [0] * len(ends)
    for item, (factor, other) in zip(line, last):
        # X put to the quotient, (1 - z) * ahead, and (z * factor - other) * ends.
        six_each = list(zip(item + [0], [0] + item, ahead + [0], [0] + ahead, ends + [0], [0] + ends))
        made.append([(place * one + (times + 1 - place) * two + three - four + factor * six - other * five) % prime
                     for place, (one, two, three, four, five, six) in enumerate(six_each)])
        ahead = item
    return made


def curved(item, begun, prime):
    """An entry of B(p) less that of B(1), where (1 - z) ** p is left out of the first and 1 - z of the second one."""
    # Modulo the prime the power p - 1 of 1 - z is the sum of all powers of z up to p - 1.
    first, second = begun
    less = [first] + [first + second] * (prime - 1) + [second]
    return trimmed([(one - two) % prime for one, two in zip(item, less)])
