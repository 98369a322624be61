"""Integers: which values are let, primes, divisors and digits."""

from math import gcd, isqrt, lcm

from wholerises.errors import InvalidNumber, InvalidOperation

MAX_PRIME = 10 ** 6
MAX_FACTORED = 10 ** 9
MAX_COMMON = 2520
MAX_BASE = 10 ** 6
MAX_INTEGER = 10 ** 60 - 1
MAX_COUNT = 100


def is_long_integer(value):
    """Whether the value is an integer of any size; True and False are none."""
    return isinstance(value, int) and not isinstance(value, bool)


def is_integer(value):
    """Whether the value is an integer of at most sixty digits."""
    return is_long_integer(value) and abs(value) <= MAX_INTEGER


def is_between(value, least, most):
    """Whether the value is an integer within the bounds."""
    return is_integer(value) and least <= value <= most


def check_number(given, least, most):
    """Raises InvalidNumber unless an integer within the bounds is given."""
    if not is_between(given, least, most):
        raise InvalidNumber(given)


def check_prime(prime):
    """Raises InvalidNumber unless a prime number is given that is let."""
    if not is_prime(prime):
        raise InvalidNumber(prime)


def is_prime(value):
    """Whether the value is a prime number of at most 10 ** 6."""
    if not is_between(value, 2, MAX_PRIME):
        return False
    if value < 5 or value % 2 == 0 or value % 3 == 0:
        return value < 4
    # Each other divisor leaves 5 or 1 by 6, as all primes above 3 do.
    for divisor in range(5, isqrt(value) + 1, 6):
        if value % divisor == 0 or value % (divisor + 2) == 0:
            return False
    return True


def sieved(most):
    """The ascending list of all primes up to an integer of at least 0."""
    marks = [True] * (most + 1)
    for number in range(2, isqrt(most) + 1):
        if marks[number]:
            first = number * number
            marks[first::number] = [False] * ((most - first) // number + 1)
    return [number for number in range(2, most + 1) if marks[number]]


def sieved_from(least, most):
    """The ascending list of all primes from an integer of at least 2 to another one."""
    marks = [True] * (most - least + 1)
    for prime in sieved(isqrt(most)):
        first = max(prime, (least + prime - 1) // prime) * prime
        marks[first - least::prime] = [False] * ((most - first) // prime + 1)
    return [number for number in range(least, most + 1) if marks[number - least]]


def prime_factors(number):
    """The dict from the primes that divide the number to how often each one does."""
    check_number(number, 1, MAX_FACTORED)
    found = {}
    left = number
    divisor = 2
    while divisor * divisor <= left:
        while left % divisor == 0:
            found[divisor] = found.get(divisor, 0) + 1
            left = left // divisor
        divisor = divisor + 1 if divisor == 2 else divisor + 2
    if left > 1:
        found[left] = 1
    return found


def moebius(number):
    """The sign number: 0 if the square of a prime divides, otherwise the sign of how many primes do."""
    check_number(number, 1, MAX_PRIME)
    sign = 1
    for times in prime_factors(number).values():
        if times > 1:
            return 0
        sign = -sign
    return sign


def sign_divisors(number):
    """The list of the pairs (divisor, sign number of the rest) of an integer above 0, but those with the sign 0."""
    found = [(number, 1)]
    for prime in prime_factors(number):
        found = found + [(divisor // prime, -sign) for divisor, sign in found]
    return found


def totient(number):
    """How many units an integer above 0 has."""
    many = number
    for prime in prime_factors(number):
        many = many // prime * (prime - 1)
    return many


def divisors_of(number):
    """The list of the divisors of an integer above 0."""
    low = [divisor for divisor in range(1, isqrt(number) + 1) if number % divisor == 0]
    return low + [number // divisor for divisor in low if divisor * divisor != number]


def inverse(number, modulus):
    """The integer from 0 to modulus - 1 that undoes a number without a common divisor with the modulus."""
    before = modulus
    behind = number % modulus
    undone = 0
    made = 1
    while behind > 1:
        whole = before // behind
        before, behind = behind, before - whole * behind
        undone, made = made, undone - whole * made
    return made % modulus


def power_of(base, exponent):
    """The power of an integer, for an exponent of at least 0."""
    power = 1
    square = base
    left = exponent
    while left > 0:
        if left % 2 == 1:
            power = power * square
        square = square * square
        left = left // 2
    return power


def power_modulo(base, exponent, modulus):
    """What the power of an integer leaves by the modulus, for an exponent of at least 0."""
    power = 1
    square = base
    left = exponent
    while left > 0:
        if left % 2 == 1:
            power = power * square % modulus
        square = square * square % modulus
        left = left // 2
    return power % modulus


def units_of(number):
    """The ascending tuple of the integers from 1 to the number without a common divisor above 1 with it."""
    check_number(number, 1, MAX_COMMON)
    return tuple([unit for unit in range(1, number + 1) if gcd(unit, number) == 1])


def are_integers(value):
    """Whether the value is a tuple of 1 to 100 integers."""
    if not isinstance(value, tuple) or not 1 <= len(value) <= MAX_COUNT:
        return False
    return all([is_integer(item) for item in value])


def divisor_of_all(numbers):
    """The greatest common divisor of integers of any size, 0 if all of them are 0."""
    divisor = 0
    for number in numbers:
        divisor = gcd(divisor, number)
    return divisor


def common_divisor(numbers):
    """The greatest common divisor, 0 if all of the integers are 0."""
    if not are_integers(numbers):
        raise InvalidOperation("no tuple of 1 to 100 integers")
    return divisor_of_all(numbers)


def common_multiple(numbers):
    """The least common multiple of integers above 0."""
    if not are_integers(numbers) or min(numbers) < 1:
        raise InvalidOperation("no tuple of 1 to 100 integers above 0")
    multiple = 1
    for number in numbers:
        multiple = lcm(multiple, number)
    return multiple


def digits_of(number, base):
    """The tuple of the digits of the number to the base, that with the index 0 first."""
    check_number(number, 0, MAX_INTEGER)
    check_number(base, 2, MAX_BASE)
    return tuple(digits_to(number, base))


def digits_to(number, base):
    """The list of the digits to the base of an integer of any size of at least 0, that with the index 0 first."""
    digits = []
    left = number
    while left > 0:
        digits.append(left % base)
        left = left // base
    return digits


def times_within(prime, number):
    """How often the prime divides an integer of any size other than 0."""
    times = 0
    left = number
    while left % prime == 0:
        left = left // prime
        times = times + 1
    return times


def factorial_exponent(prime, number):
    """How often the prime divides the factorial of an integer of any size of at least 0."""
    times = 0
    left = number
    while left > 0:
        left = left // prime
        times = times + left
    return times
