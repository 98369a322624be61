"""Whole rows: quotient rows whose numbers are all integers, and what shows that a row is none."""

from wholerises.base.numbers import MAX_PRIME, check_number, check_prime, is_long_integer, sieved, sieved_from
from wholerises.base.ratios import ceiling, reduced
from wholerises.errors import InvalidOperation
from wholerises.row.quotients import check_row, exponent_at
from wholerises.stair.stairs import each_stair, least_depth, starts_of

MAX_BROKEN = 100
MAX_PRIMED = 1000
# So many integers at a time are looked through for primes, for often only the first ones are wanted.
STRETCH = 10000


def is_whole(row):
    """Whether the row is whole."""
    return least_depth(row) >= 0 and row.excess >= 0


def check_whole(row):
    """Raises InvalidOperation unless the row is whole."""
    if not is_whole(row):
        raise InvalidOperation("the row is not whole")


def is_algebraic_row(row):
    """Whether the row is balanced and whole, and its height is 1."""
    return row.is_balanced and row.height == 1 and is_whole(row)


def late_zero(row):
    """The first place behind the first stair at which the depth is 0, or None.

    The first stair ends at 1 / M, M being the greatest of a row with a member above 1.
    """
    for start, height in starts_of(row)[1:]:
        if height == 0:
            return reduced(start, row.common)
    return None


def fault(row):
    """What tells that the row is not whole: its first stair below 0 or an excess below 0; None otherwise."""
    check_row(row)
    for start, end, height in each_stair(row):
        if height < 0:
            return ("stair", start, end, height)
    return ("excess", row.excess) if row.excess < 0 else None


def witness(row, prime):
    """An integer n for which the prime has an exponent below 0 in u(n), as the fault tells it."""
    check_row(row)
    check_prime(prime)
    told = fault(row)
    if told is None:
        raise InvalidOperation("the row is whole")
    if prime <= least_bound(row):
        raise InvalidOperation("the prime is not above the square of the greatest member")
    return told_witness(told, prime)


def least_bound(row):
    """The integer above which the fault tells a witness at each prime."""
    return row.greatest ** 2


def told_witness(told, prime):
    """The witness that a fault tells at a prime that is great enough."""
    if told[0] == "excess":
        return prime
    top, bottom = told[1]
    return ceiling(top * prime, bottom)


def is_witness(row, prime, value):
    """Whether the value is an integer n of at least 1 for which the prime has an exponent below 0 in u(n)."""
    check_row(row)
    check_prime(prime)
    return is_long_integer(value) and value >= 1 and exponent_at(row, prime, value) < 0


def first_broken(row, number):
    """The least n from 1 to the number for which u(n) is not an integer, or None."""
    check_row(row)
    check_number(number, 1, MAX_BROKEN)
    # A whole row has none, and it would take long to look for one.
    if is_whole(row):
        return None
    primes = sieved(row.greatest * number)
    for index in range(1, number + 1):
        if is_broken_at(row, primes, index):
            return index
    return None


def is_broken_at(row, primes, number):
    """Whether one of the ascending primes has an exponent below 0 in u(n)."""
    most = row.greatest * number
    for prime in primes:
        if prime > most:
            return False
        if exponent_at(row, prime, number) < 0:
            return True
    return False


def broken_primes(row, number):
    """The ascending tuple of the primes that have an exponent below 0 in u(n)."""
    exponents = exponents_at(row, number)
    return tuple([prime for prime in exponents if exponents[prime] < 0])


def exponents_at(row, number):
    """The dict from the primes that have an exponent other than 0 in u(n) to this exponent."""
    check_row(row)
    check_number(number, 0, MAX_PRIMED)
    found = {prime: exponent_at(row, prime, number) for prime in sieved(row.greatest * number)}
    return {prime: found[prime] for prime in found if found[prime] != 0}


def each_witness(row):
    """Yields the pairs (p, n) of a prime up to 1,000,000 and the witness that the fault tells at it."""
    told = fault(row)
    if told is None:
        raise InvalidOperation("the row is whole")
    for begin in range(least_bound(row) + 1, MAX_PRIME + 1, STRETCH):
        for prime in sieved_from(begin, min(begin + STRETCH - 1, MAX_PRIME)):
            yield (prime, told_witness(told, prime))
