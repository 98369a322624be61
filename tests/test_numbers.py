"""[1.3], [1.4] and the functions of wholerises.base.numbers."""

from math import gcd, lcm

from wholerises.base import numbers
from wholerises.base.numbers import (
    common_divisor, common_multiple, digits_of, is_integer, is_prime, moebius, prime_factors, units_of)
from wholerises.errors import InvalidNumber, InvalidOperation
from tests.support import LONG, MIDDLE, NO_INTEGERS, NO_PRIMES, Case, is_plain_prime


class Judges(Case):

    def test_constants(self):
        self.same((numbers.MAX_PRIME, numbers.MAX_FACTORED, numbers.MAX_COMMON), (1000000, 1000000000, 2520))

    def test_is_integer(self):
        self.judges(is_integer, (0, 1, -1, LONG, -LONG), NO_INTEGERS + (10 ** 60, -10 ** 60))

    def test_is_prime(self):
        self.judges(is_prime, (2, 3, 5, 997, 999983), NO_PRIMES + (997 * 997, 1009 * 991, 25, 9))
        for value in list(range(-10, 2000)) + list(range(999000, 10 ** 6 + 1)):
            self.assertIs(is_prime(value), is_plain_prime(value) and value <= 10 ** 6, value)


class Factors(Case):

    def test_prime_factors(self):
        self.same(prime_factors(1), {})
        self.same(prime_factors(10 ** 9), {2: 9, 5: 9})
        self.same(prime_factors(999999937), {999999937: 1})
        self.same(prime_factors(31607 * 31607), {31607: 2})
        self.same(prime_factors(2 * 3 * 5 * 7 * 11 * 13 * 17 * 19 * 23),
                  {2: 1, 3: 1, 5: 1, 7: 1, 11: 1, 13: 1, 17: 1, 19: 1, 23: 1})
        for number in range(1, 500):
            product = 1
            found = prime_factors(number)
            for prime, times in found.items():
                self.assertTrue(is_plain_prime(prime))
                product *= prime ** times
            self.assertEqual(product, number)
            self.assertEqual(list(found), sorted(found))

    def test_a_new_dict_each_time(self):
        prime_factors(12)[2] = 7
        self.same(prime_factors(12), {2: 2, 3: 1})

    def test_prime_factors_refuses(self):
        self.refused_each(InvalidNumber, prime_factors, NO_INTEGERS + (0, -1, -6, 10 ** 9 + 1, LONG))

    def test_moebius(self):
        self.same([moebius(n) for n in range(1, 17)], [1, -1, -1, 0, -1, 1, -1, 0, 0, 1, -1, 0, -1, 1, 1, 0])
        self.same([moebius(999983), moebius(510510), moebius(10 ** 6), moebius(997 * 997)], [-1, -1, 0, 0])

    def test_sign_numbers_of_divisors(self):
        for number in range(1, 300):
            total = sum(moebius(d) for d in range(1, number + 1) if number % d == 0)
            self.same(total, 1 if number == 1 else 0)

    def test_moebius_refuses(self):
        self.refused_each(InvalidNumber, moebius, NO_INTEGERS + (0, -1, 10 ** 6 + 1, LONG))


class Divisors(Case):

    def test_units(self):
        self.same(units_of(1), (1,))
        self.same(units_of(2), (1,))
        self.same(units_of(12), (1, 5, 7, 11))
        self.same(len(units_of(2520)), 576)
        for number in range(2, 60):
            self.same(units_of(number), tuple(k for k in range(1, number) if gcd(k, number) == 1))

    def test_units_refuses(self):
        self.refused_each(InvalidNumber, units_of, NO_INTEGERS + (0, -1, 2521, LONG))

    def test_common_divisor(self):
        self.same([common_divisor(given) for given in ((0,), (0, 0), (-6,), (0, -4, 6), (LONG, LONG), (7,) * 100)],
                  [0, 0, 6, 2, LONG, 7])
        self.same(common_divisor((12, -18, 30)), 6)

    def test_common_multiple(self):
        self.same([common_multiple(given) for given in ((1,), (4, 6), (6, 4, 10), (LONG,), (7,) * 100)],
                  [1, 12, 60, LONG, 7])
        many = tuple(range(LONG - 99, LONG + 1))
        self.same(common_multiple(many), lcm(*many))

    def test_they_refuse(self):
        wrong = tuple(value for value in NO_INTEGERS if value != (1, 2))
        wrong += (5, (1, True), (1, False), (1, None), (2, 10 ** 60), (1, (2,)), (1,) * 101, [4, 6], (4, "6"),
                  (MIDDLE, 1))
        self.refused_each(InvalidOperation, common_divisor, wrong)
        self.refused_each(InvalidOperation, common_multiple, wrong + ((0,), (4, 0), (4, -6), (-1,)))


class Digits(Case):

    def test_digits(self):
        self.same([digits_of(0, 2), digits_of(1, 2), digits_of(6, 2), digits_of(45, 7), digits_of(10, 10 ** 6)],
                  [(), (1,), (0, 1, 1), (3, 6), (10,)])
        self.same(digits_of(10 ** 6, 10 ** 6), (0, 1))
        self.same(digits_of(LONG, 10), (9,) * 60)

    def test_digits_make_the_number(self):
        for number in list(range(200)) + [LONG, 7 ** 50]:
            for base in (2, 3, 7, 10, 10 ** 6):
                digits = digits_of(number, base)
                self.assertEqual(sum(digit * base ** index for index, digit in enumerate(digits)), number)
                self.assertTrue(all(0 <= digit < base for digit in digits))
                self.assertFalse(digits and digits[-1] == 0)

    def test_digits_refuses(self):
        self.refused_each(InvalidNumber, digits_of, NO_INTEGERS + (-1, -LONG), 2)
        self.refused_each(InvalidNumber, lambda base: digits_of(5, base), NO_INTEGERS + (1, 0, -2, 10 ** 6 + 1, LONG))
        self.refused(InvalidNumber(-1), digits_of, -1, 1)


class Helpers(Case):

    def test_divisors(self):
        for number in range(1, 200):
            divisors = [d for d in range(1, number + 1) if number % d == 0]
            self.assertEqual(sorted(numbers.divisors_of(number)), divisors)
            signs = {d: moebius(number // d) for d in divisors if moebius(number // d) != 0}
            self.assertEqual((dict(numbers.sign_divisors(number)), len(numbers.sign_divisors(number))),
                             (signs, len(signs)))
            self.same(numbers.totient(number), len(units_of(number)))

    def test_inverses_and_powers(self):
        for modulus in list(range(1, 60)) + [999983]:
            for number in [unit for unit in units_of(min(modulus, 59)) if gcd(unit, modulus) == 1]:
                for given in (number, number + modulus, number - 3 * modulus):
                    found = numbers.inverse(given, modulus)
                    self.same((found * given % modulus, 0 <= found < modulus), (1 % modulus, True))
        for base in (0, 1, 2, -3, LONG):
            for exponent in range(12):
                self.same(numbers.power_of(base, exponent), base ** exponent)
                for modulus in (1, 2, 7, 9973):
                    self.same(numbers.power_modulo(base, exponent, modulus), base ** exponent % modulus)

    def test_sieves(self):
        primes = [number for number in range(2, 3000) if is_plain_prime(number)]
        for least, most in ((2, 2), (2, 3), (4, 4), (8, 10), (9, 11), (2, 2999), (100, 200), (961, 2000), (2999, 2999)):
            self.same(numbers.sieved_from(least, most), [prime for prime in primes if least <= prime <= most])
        for most in (0, 1, 2, 3, 4, 25, 2999):
            self.same(numbers.sieved(most), [prime for prime in primes if prime <= most])
        self.same(numbers.sieved_from(999980, 10 ** 6), [999983])
