"""Ratios: pairs (top, bottom) in lowest terms, the bottom above 0."""

from math import factorial, gcd

from wholerises.base.numbers import MAX_INTEGER, check_number, check_prime, is_integer, is_long_integer, times_within
from wholerises.errors import InvalidNumber, InvalidOperation, InvalidRatio


def is_long_pair(value):
    """Whether the value is a pair of integers of any size."""
    return isinstance(value, tuple) and len(value) == 2 and is_long_integer(value[0]) and is_long_integer(value[1])


def is_long_ratio(value):
    """Whether the value is a ratio of integers of any size."""
    return is_long_pair(value) and value[1] > 0 and gcd(value[0], value[1]) == 1


def is_ratio(value):
    """Whether the value is a ratio of integers of at most sixty digits."""
    return is_long_ratio(value) and is_integer(value[0]) and is_integer(value[1])


def check_ratio(ratio):
    """Raises InvalidRatio unless a ratio is given."""
    if not is_ratio(ratio):
        raise InvalidRatio("no ratio")


def check_ratios(one, other):
    """Raises InvalidRatio for the first one that is no ratio."""
    check_ratio(one)
    check_ratio(other)


def reduced(top, bottom):
    """The ratio of two integers of any size, the second one not 0."""
    divisor = gcd(top, bottom)
    if bottom < 0:
        divisor = -divisor
    return (top // divisor, bottom // divisor)


def lowest(top, bottom):
    """The ratio of two integers."""
    check_number(top, -MAX_INTEGER, MAX_INTEGER)
    check_number(bottom, -MAX_INTEGER, MAX_INTEGER)
    if bottom == 0:
        raise InvalidNumber(bottom)
    return reduced(top, bottom)


def compare(one, other):
    """-1, 0 or 1 if the first fraction is below, equal to or above the second one."""
    check_ratios(one, other)
    left = one[0] * other[1]
    right = other[0] * one[1]
    if left == right:
        return 0
    return -1 if left < right else 1


def plus(one, other):
    """The sum of two fractions."""
    check_ratios(one, other)
    return reduced(one[0] * other[1] + other[0] * one[1], one[1] * other[1])


def minus(one, other):
    """The difference of two fractions."""
    check_ratios(one, other)
    return reduced(one[0] * other[1] - other[0] * one[1], one[1] * other[1])


def times(one, other):
    """The product of two fractions."""
    check_ratios(one, other)
    return reduced(one[0] * other[0], one[1] * other[1])


def over(one, other):
    """The quotient of two fractions, the second one not 0."""
    check_ratios(one, other)
    if other[0] == 0:
        raise InvalidOperation("nothing is divided by 0")
    return reduced(one[0] * other[1], one[1] * other[0])


def floor_of(ratio):
    """The greatest integer that is at most the fraction."""
    check_ratio(ratio)
    return ratio[0] // ratio[1]


def ceiling_of(ratio):
    """The least integer that is at least the fraction."""
    check_ratio(ratio)
    return ceiling(ratio[0], ratio[1])


def ceiling(top, bottom):
    """The least integer that is at least top / bottom, the bottom above 0, for integers of any size."""
    return -(-top // bottom)


def part_of(ratio):
    """The fraction above 0 and up to 1 that differs from this one by an integer."""
    check_ratio(ratio)
    rest = ratio[0] % ratio[1]
    return (rest, ratio[1]) if rest > 0 else (1, 1)


def exponent_of(prime, ratio):
    """How often the prime divides the top of the fraction, less how often it divides the bottom."""
    check_prime(prime)
    check_ratio(ratio)
    if ratio[0] == 0:
        raise InvalidOperation("0 has no exponents")
    return times_within(prime, ratio[0]) - times_within(prime, ratio[1])


def factorial_ratio(tops, bottoms):
    """The product of the factorials of the tops, divided by that of the bottoms."""
    top = 1
    for number in tops:
        top = top * factorial(number)
    bottom = 1
    for number in bottoms:
        bottom = bottom * factorial(number)
    return reduced(top, bottom)
