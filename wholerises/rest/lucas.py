"""Digits modulo primes: what the numbers of a whole row leave, and where digits do not tell it."""

from math import comb, perm

from wholerises.base.numbers import check_number, digits_to, inverse, is_between, is_prime, power_modulo, times_within
from wholerises.base.ratios import ceiling, reduced
from wholerises.errors import InvalidNumber, InvalidOperation, Refused, TooMany
from wholerises.row.quotients import check_balanced, check_row, exponent_at
from wholerises.stair.stairs import depth_at
from wholerises.stair.wholes import check_whole, late_zero

MAX_PRIME = 10000
MAX_INDEX = 10 ** 30
MAX_FACTORIAL = 600
MAX_FAULTED = 97
MAX_MOST = 20
# The factorials of the multiples of this are kept while the numbers of a row are looked at one after the other.
STRIDE = 64


def check_prime_to(prime, most):
    """Raises InvalidNumber unless a prime number is given that is not above a bound."""
    if not is_prime(prime) or prime > most:
        raise InvalidNumber(prime)


def check_whole_balanced(row):
    """Raises InvalidOperation unless the row is whole and balanced."""
    check_whole(row)
    check_balanced(row)


def factorial_rest(number, prime, marks):
    """What the factorial of an integer below the prime leaves; the list keeps what those of some integers leave."""
    while len(marks) * STRIDE <= number:
        marks.append(marks[-1] * perm(len(marks) * STRIDE, STRIDE) % prime)
    return marks[number // STRIDE] * perm(number, number % STRIDE) % prime


def rest_by(row, number, prime, marks):
    """The rest at a number, by the digits of its multiples: no sign is left, since the exponent is 0."""
    if exponent_at(row, prime, number) > 0:
        return 0
    powers = {}
    for member, count in row:
        for digit in digits_to(member * number, prime):
            powers[digit] = powers.get(digit, 0) + count
    top = 1
    bottom = 1
    for digit, power in powers.items():
        # The factorials of 0 and 1 leave nothing to multiply.
        if digit > 1 and power > 0:
            top = top * power_modulo(factorial_rest(digit, prime, marks), power, prime) % prime
        elif digit > 1 and power < 0:
            bottom = bottom * power_modulo(factorial_rest(digit, prime, marks), -power, prime) % prime
    return top * inverse(bottom, prime) % prime


def rest(row, number, prime):
    """What u(n) leaves by the prime."""
    check_row(row)
    check_number(number, 0, MAX_INDEX)
    check_prime_to(prime, MAX_PRIME)
    check_whole(row)
    return rest_by(row, number, prime, [1])


def by_digits(row, number, prime):
    """What the product of the rests at the digits of the number leaves by the prime."""
    check_row(row)
    check_number(number, 0, MAX_INDEX)
    check_prime_to(prime, MAX_PRIME)
    check_whole(row)
    times = {}
    for digit in digits_to(number, prime):
        times[digit] = times.get(digit, 0) + 1
    marks = [1]
    product = 1
    for digit, many in times.items():
        product = product * power_modulo(rest_by(row, digit, prime, marks), many, prime) % prime
    return product


def each_rest(row, prime):
    """Yields the rests at 0, 1, 2 and so on, without an end."""
    check_row(row)
    check_prime_to(prime, MAX_PRIME)
    check_whole(row)
    marks = [1]
    number = 0
    while True:
        yield rest_by(row, number, prime, marks)
        number = number + 1


def goes_by_digits(row):
    """Whether the row goes by digits modulo each prime."""
    check_row(row)
    check_whole_balanced(row)
    return late_zero(row) is None


def bend_at(row, number, top, bottom):
    """The ratio of [15.3] for a fraction, with the number in the place of 1.

    With r and p as top and bottom it is, up to what leaves 1 by p, the quotient of u(n p + r) and u(n) u(r).
    """
    product = 1
    divisor = 1
    for member, count in row:
        step = member * top // bottom
        for _ in range(count):
            product = product * comb(member * number + step, step)
        for _ in range(-count):
            divisor = divisor * comb(member * number + step, step)
    return reduced(product, divisor)


def is_fault_at(row, prime, number, digit):
    """Whether (n, r) is a digit fault of a whole balanced row, for a number n of at least 0 and r below the prime."""
    top, bottom = bend_at(row, number, digit, prime)
    exponent = exponent_at(row, prime, number) + exponent_at(row, prime, digit)
    if exponent == 0:
        return (top - bottom) % prime != 0
    return times_within(prime, bottom) == exponent


def digit_fault(row, prime, *, most=2):
    """The least digit fault (n, r) with n from 1 to `most`, or None."""
    check_row(row)
    check_prime_to(prime, MAX_FAULTED)
    check_number(most, 1, MAX_MOST)
    check_whole_balanced(row)
    # Where the depth is above 0, both numbers leave 0, and ahead of 1 / M the bend is 1.
    digits = [digit for digit in range(ceiling(prime, row.greatest), prime)
              if depth_at(row, (digit, prime)) == 0]
    for number in range(1, most + 1):
        for digit in digits:
            if is_fault_at(row, prime, number, digit):
                return (number, digit)
    return None


def is_digit_fault(row, prime, value):
    """Whether the value is a digit fault (n, r), with n at most 10 ** 30."""
    check_row(row)
    check_prime_to(prime, MAX_PRIME)
    check_whole_balanced(row)
    if not isinstance(value, tuple) or len(value) != 2:
        return False
    if not is_between(value[0], 0, MAX_INDEX) or not is_between(value[1], 0, prime - 1):
        return False
    return is_fault_at(row, prime, value[0], value[1])


def bend(row):
    """The pair of the place s and of the ratio w of [15.3], or None."""
    check_row(row)
    check_whole_balanced(row)
    return bend_of(row)


def bend_of(row):
    """The bend of what is surely a whole balanced row."""
    place = late_zero(row)
    return None if place is None else (place, bend_at(row, 1, place[0], place[1]))


def far_fault(row, prime):
    """The digit fault (1, r) that the bend tells."""
    check_row(row)
    check_prime_to(prime, MAX_PRIME)
    check_whole_balanced(row)
    told = bend_of(row)
    if told is None or prime <= row.greatest ** 2:
        raise InvalidOperation("the row goes by digits, or the prime is not above the square of the greatest member")
    place, ratio = told
    if (ratio[0] - ratio[1]) % prime == 0:
        raise Refused(("prime", prime))
    return (1, ceiling(place[0] * prime, place[1]))


def cube_exponent(row, number, prime):
    """The exponent of the prime in the difference of u(n p) and u(n), or None if both are equal."""
    check_row(row)
    check_number(number, 1, MAX_INDEX)
    check_prime_to(prime, MAX_PRIME)
    check_whole_balanced(row)
    if row.greatest * number * prime > MAX_FACTORIAL:
        raise TooMany(MAX_FACTORIAL)
    difference = row.value(number * prime)[0] - row.value(number)[0]
    return None if difference == 0 else times_within(prime, difference)
