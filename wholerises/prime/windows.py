"""Windows of primes: where the depth of a windowed row is 1, and the primes that divide its numbers once."""

from math import isqrt, lcm

from wholerises.base.numbers import MAX_INTEGER, check_number, check_prime, is_prime, sieved
from wholerises.base.ratios import reduced
from wholerises.errors import InvalidOperation, TooMany
from wholerises.rise.risings import scale_of
from wholerises.row.quotients import MAX_INDEX, check_balanced, check_row, exponent_at
from wholerises.stair.stairs import depth_at, each_stair, starts_of

MAX_REACH = 600
MAX_SOUGHT = 10000
MAX_MOST = 20


def lcm_to(number):
    """The least common multiple of the integers from 1 to a number, 1 for 0."""
    check_number(number, 0, MAX_REACH)
    return multiple_to(number)


def multiple_to(number):
    """The least common multiple of the integers from 1 to what is surely such a number."""
    multiple = 1
    for factor in range(2, number + 1):
        multiple = lcm(multiple, factor)
    return multiple


def primes_to(number):
    """The ascending tuple of all primes up to a number."""
    check_number(number, 0, MAX_SOUGHT)
    return tuple(sieved(number))


def is_windowed(row):
    """Whether the row is balanced and its depth is 0 or 1 everywhere."""
    check_row(row)
    return row.is_balanced and all([height in (0, 1) for start, height in starts_of(row)])


def check_windowed(row):
    """Raises InvalidOperation unless the row is windowed."""
    if not is_windowed(row):
        raise InvalidOperation("the row is not windowed")


def check_reached(row, number, most):
    """Raises the errors of a row and a number whose product with the greatest member is at most a bound."""
    check_row(row)
    check_number(number, 0, MAX_INTEGER)
    check_windowed(row)
    if row.greatest * number > most:
        raise TooMany(most)


def windows(row):
    """The ascending tuple of the windows, pairs (start, end)."""
    check_row(row)
    check_windowed(row)
    return tuple([(start, end) for start, end, height in each_stair(row) if height == 1])


def exponent_by_windows(row, prime, number):
    """The exponent of the prime in u(n): for how many of its powers the part of n by it lies in a window."""
    check_row(row)
    check_prime(prime)
    check_number(number, 0, MAX_INDEX)
    check_windowed(row)
    # The depth is 1 in the windows and 0 elsewhere, so its sum tells how many powers there are.
    return exponent_at(row, prime, number)


def is_in_window(row, number, prime):
    """Whether the part of n by the prime lies in a window."""
    return depth_at(row, (number, prime)) == 1


def window_primes(row, number):
    """The ascending tuple of the window primes of a number."""
    check_reached(row, number, MAX_SOUGHT)
    most = row.greatest * number
    least = isqrt(most)
    return tuple([prime for prime in sieved(most) if prime > least and is_in_window(row, number, prime)])


def prime_product(row, number):
    """The product of the window primes of a number."""
    product = 1
    for prime in window_primes(row, number):
        product = product * prime
    return product


def is_window_prime(row, number, value):
    """Whether the value is a window prime of a number."""
    check_reached(row, number, MAX_SOUGHT)
    most = row.greatest * number
    return is_prime(value) and value <= most < value * value and is_in_window(row, number, value)


def prime_intervals(row, number, most):
    """The pairs (n / (k + t), n / (k + s)) for k from 0 to `most` and all windows from s to t."""
    check_row(row)
    check_number(number, 1, MAX_INDEX)
    check_number(most, 0, MAX_MOST)
    told = windows(row)
    return tuple([(part_after(number, k, end), part_after(number, k, start))
                  for k in range(most + 1) for start, end in told])


def part_after(number, whole, ratio):
    """The number, divided by the sum of an integer and a fraction."""
    return reduced(number * ratio[1], whole * ratio[1] + ratio[0])


def cofactor(row, number):
    """The least common multiple of the integers from 1 to M * n, divided by u(n)."""
    check_reached(row, number, MAX_REACH)
    return multiple_to(row.greatest * number) // row.value(number)[0]


def growth(row):
    """The product of a ** a over the tops, divided by that over the bottoms, a ratio."""
    check_row(row)
    check_balanced(row)
    return scale_of(row)
