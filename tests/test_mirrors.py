"""[16.2] to [16.5] and wholerises.mirror.mirrors."""

from fractions import Fraction

from wholerises.errors import InvalidNumber, InvalidOperation, InvalidRatio, InvalidRow, TooMany
from wholerises.family.families import rows_of_degree
from wholerises.mirror.mirrors import (
    back_mirror, first_series, is_mirror_whole, mirror, mirror_fault, mirror_place, mirror_witness, part_mirror,
    second_series, weight_at)
from wholerises.row.quotients import Quotient
from wholerises.stair.wholes import is_whole
from tests.support import (
    BROKEN, CHEBYSHEV, FIVE, GREAT, LONG, MIDDLE, NO_INTEGERS, NO_PRIMES, NO_RATIOS, NO_ROWS, SHORT, TURNED, Case,
    depth_of, exponent_in, is_plain_prime, numbers_of, pair)
from tests.test_lucas import BALANCED, UNBALANCED, late_places
from tests.test_series import fractions, plain_exp, plain_product, put_into, ratios

THREE, FOUR = Quotient((3,), (2, 1)), Quotient((4,), (2, 2))
SERIED = BALANCED + (BROKEN, TURNED, GREAT, Quotient((4, 1), (5,)), Quotient((6, 5), (4, 4, 3)),
                     Quotient((7, 2), (5, 4)), Quotient((1, 1, 1), (3,)))
NOT_BALANCED = UNBALANCED + (SHORT, Quotient((), (1,)), Quotient((1,), (2,)))


def plain_harmonic(number):
    """H of an integer."""
    return sum((Fraction(1, k) for k in range(1, number + 1)), Fraction(0))


def plain_quotient(one, other):
    """The quotient of two lists of fractions, the term 0 of the second one being 1."""
    made = []
    for place, term in enumerate(one):
        made.append(term - sum(other[k] * made[place - k] for k in range(1, place + 1)))
    return made


def plain_numbers(row, many):
    """F."""
    return [numbers_of(row, number) for number in range(many)]


def plain_part(row, size, many):
    """A part mirror."""
    terms = [value * plain_harmonic(size * number) for number, value in enumerate(plain_numbers(row, many))]
    return plain_exp(plain_quotient(terms, plain_numbers(row, many)))


def plain_second(row, many):
    """G."""
    return [value * sum(count * member * plain_harmonic(member * number) for member, count in row)
            for number, value in enumerate(plain_numbers(row, many))]


def plain_mirror(row, many):
    """The mirror."""
    return plain_exp(plain_quotient(plain_second(row, many), plain_numbers(row, many)))


def plain_weight(row, place):
    """W."""
    return sum(count * member * plain_harmonic(member * place // 1) for member, count in row)


def most_of(row, most):
    """How many terms can be asked for, up to a bound."""
    return min(most, 1 + 600 // row.greatest)


class Series(Case):

    def test_first_and_second_series(self):
        for row in SERIED:
            for many in sorted({1, 2, most_of(row, 5), most_of(row, 12)}):
                self.same(first_series(row, many), ratios(plain_numbers(row, many)))
                self.same(second_series(row, many), ratios(plain_second(row, many)))

    def test_mirrors(self):
        for row in SERIED:
            for many in sorted({1, 2, 3, most_of(row, 6)}):
                self.same(mirror(row, many), ratios(plain_mirror(row, many)))
        for row in (MIDDLE, THREE, FOUR, BROKEN, TURNED):
            self.same(mirror(row, 25), ratios(plain_mirror(row, 25)))

    def test_the_longest_mirrors(self):
        row = Quotient((25,), (15, 10))
        found = mirror(row, 25)
        self.same(found[:6], ratios(plain_mirror(row, 6)))
        self.same((len(found), len(back_mirror(row, 25)), len(part_mirror(row, 60, 25))), (25, 25, 25))

    def test_part_mirrors(self):
        for row in SERIED[:9] + (BROKEN, TURNED):
            for size in (1, 2, 3, row.greatest, 60):
                many = most_of(row, 5)
                self.same(part_mirror(row, size, many), ratios(plain_part(row, size, many)))
                self.same(part_mirror(row, size, 1), ((1, 1),))

    def test_the_mirror_is_a_product_of_part_mirrors(self):
        for row in (MIDDLE, THREE, FOUR, FIVE, BROKEN, CHEBYSHEV):
            many = 5
            found = fractions(mirror(row, many))
            for member, count in row:
                part = fractions(part_mirror(row, member, many))
                for _ in range(member * abs(count)):
                    found = plain_quotient(found, part) if count > 0 else plain_product(found, part)
            self.assertEqual(found, [1] + [0] * (many - 1))

    def test_back_mirrors(self):
        for row in SERIED:
            for many in sorted({1, 2, 3, most_of(row, 7)}):
                found = fractions(back_mirror(row, many))
                self.assertEqual(len(found), many)
                terms = ([Fraction(0)] + fractions(mirror(row, many)))[:many]
                self.assertEqual(put_into(terms, found), [Fraction(int(place == 1)) for place in range(many)])
        self.same(back_mirror(MIDDLE, 1), ((0, 1),))

    def test_they_refuse(self):
        for action in (first_series, second_series, mirror, back_mirror):
            self.refused_each(InvalidRow, action, NO_ROWS, 1)
            self.refused_each(InvalidNumber, lambda many: action(MIDDLE, many), NO_INTEGERS + (0, -1, 26, LONG))
            self.refused_each(InvalidOperation, action, NOT_BALANCED, 1)
            self.refused(TooMany(600), action, CHEBYSHEV, 22)
            self.refused(TooMany(600), action, Quotient((26,), (13, 13)), 25)
            self.refused(InvalidNumber(0), action, SHORT, 0)
            self.refused(InvalidOperation, action, Quotient((60,), (1,)), 25)
            self.refused(InvalidRow, action, None, None)
        self.same(len(mirror(CHEBYSHEV, 21)), 21)
        self.same(len(mirror(Quotient((24,), (12, 12)), 25)), 25)

    def test_part_mirrors_refuse(self):
        self.refused_each(InvalidRow, part_mirror, NO_ROWS, 1, 1)
        self.refused_each(InvalidNumber, lambda size: part_mirror(MIDDLE, size, 1), NO_INTEGERS + (0, -1, 61, LONG))
        self.refused_each(InvalidNumber, lambda many: part_mirror(MIDDLE, 1, many), NO_INTEGERS + (0, -1, 26, LONG))
        self.refused_each(InvalidOperation, part_mirror, NOT_BALANCED, 1, 1)
        self.refused(TooMany(600), part_mirror, CHEBYSHEV, 1, 22)
        self.refused(InvalidNumber(61), part_mirror, SHORT, 61, 0)
        self.refused(InvalidNumber(0), part_mirror, SHORT, 60, 0)
        self.refused(InvalidRow, part_mirror, None, 0, 0)


class Wholes(Case):

    def test_whole_mirrors(self):
        for row in BALANCED + rows_of_degree(3) + rows_of_degree(6):
            places = [place for place in late_places(row) if depth_of(row, place) == 0]
            self.assertIs(is_mirror_whole(row), not places)
            self.same(mirror_place(row), pair(places[0]) if places else None)
            if not places:
                many = most_of(row, 9)
                for found in (mirror(row, many), back_mirror(row, many)):
                    self.assertEqual({bottom for top, bottom in found}, {1})
                for size in range(1, row.greatest + 1):
                    self.assertEqual({bottom for top, bottom in part_mirror(row, size, 6)}, {1})

    def test_not_all_part_mirrors_are_whole(self):
        self.assertIs(is_mirror_whole(MIDDLE), True)
        self.same(part_mirror(MIDDLE, 3, 3)[2], (634, 45))

    def test_weights(self):
        for row in SERIED:
            for place in [Fraction(0)] + late_places(row)[::1 + row.greatest // 3]:
                self.same(weight_at(row, pair(place)), pair(plain_weight(row, place)))
            if is_whole(row) and mirror_place(row) is not None:
                self.assertGreater(weight_at(row, mirror_place(row))[0], 0)
        self.same(weight_at(MIDDLE, (10 ** 59, 10 ** 60 - 1)), (0, 1))

    def test_witnesses(self):
        for row in BALANCED:
            place = mirror_place(row)
            primes = [prime for prime in range(row.greatest ** 2 + 1, row.greatest ** 2 + 60) if is_plain_prime(prime)]
            for prime in primes + [999983]:
                if place is None:
                    self.refused(InvalidOperation, mirror_witness, row, prime)
                else:
                    self.same(mirror_witness(row, prime), -(-place[0] * prime // place[1]))

    def test_witnesses_tell_terms(self):
        looked = 0
        for row in (THREE, FOUR, Quotient((4,), (3, 1)), Quotient((5,), (3, 2))):
            for prime in (11, 13, 17, 19, 23, 29, 31):
                if prime > row.greatest ** 2 and mirror_witness(row, prime) < 25:
                    index = mirror_witness(row, prime)
                    terms = fractions(mirror(row, index + 1))
                    self.assertEqual(exponent_in(prime, terms[index]), -1)
                    self.assertTrue(all(term == 0 or exponent_in(prime, term) >= 0 for term in terms[:index]))
                    looked += 1
        self.assertGreater(looked, 12)

    def test_a_prime_that_divides_the_weight(self):
        for row, weight in ((Quotient((16,), (8, 5, 3)), (421, 30)), (Quotient((6, 6, 4, 1), (5, 3, 3, 2, 2, 2)), (41, 6)),
                            (Quotient((16, 1), (8, 5, 2, 2)), (3217, 210))):
            self.same(weight_at(row, mirror_place(row)), weight)
            self.assertGreater(weight[0], row.greatest ** 2)
            self.refused(InvalidOperation, mirror_witness, row, weight[0])
            self.assertIsInstance(mirror_witness(row, 409), int)

    def test_faults(self):
        for row in SERIED:
            terms = plain_mirror(row, most_of(row, 8))
            broken = [index for index, term in enumerate(terms) if term.denominator > 1]
            for most in range(len(terms)):
                told = [index for index in broken if index <= most]
                self.same(mirror_fault(row, most), told[0] if told else None)
        self.assertIsNone(mirror_fault(MIDDLE, 24))
        self.assertIsNone(mirror_fault(FIVE, 24))

    def test_algebraic_rows_need_no_whole_mirror(self):
        self.assertIs(is_mirror_whole(CHEBYSHEV), False)

    def test_they_refuse(self):
        for action in (is_mirror_whole, mirror_place):
            self.refused_each(InvalidRow, action, NO_ROWS)
            self.refused_each(InvalidOperation, action, NOT_BALANCED + (BROKEN, TURNED, GREAT))
        self.refused_each(InvalidRow, mirror_witness, NO_ROWS, 17)
        self.refused_each(InvalidNumber, lambda prime: mirror_witness(FOUR, prime), NO_PRIMES)
        self.refused_each(InvalidOperation, mirror_witness, NOT_BALANCED + (BROKEN, TURNED, GREAT, MIDDLE, FIVE), 999983)
        self.refused_each(InvalidNumber, lambda prime: mirror_witness(BROKEN, prime), NO_PRIMES)
        self.refused(InvalidRow, mirror_witness, None, 4)
        for prime in (2, 3, 5, 7, 11, 13):
            self.refused(InvalidOperation, mirror_witness, FOUR, prime)
        self.refused_each(InvalidRow, weight_at, NO_ROWS, (1, 2))
        self.refused_each(InvalidRatio, lambda ratio: weight_at(MIDDLE, ratio), NO_RATIOS)
        self.refused_each(InvalidOperation, lambda ratio: weight_at(MIDDLE, ratio), ((-1, 2), (1, 1), (3, 2), (LONG, 1)))
        self.refused_each(InvalidOperation, weight_at, NOT_BALANCED, (1, 2))
        self.refused(InvalidRatio, weight_at, SHORT, (2, 4))
        self.same(weight_at(MIDDLE, (1, 2)), (2, 1))

    def test_faults_refuse(self):
        self.refused_each(InvalidRow, mirror_fault, NO_ROWS, 1)
        self.refused_each(InvalidNumber, lambda most: mirror_fault(MIDDLE, most), NO_INTEGERS + (-1, 25, LONG))
        self.refused_each(InvalidOperation, mirror_fault, NOT_BALANCED, 1)
        self.refused(TooMany(600), mirror_fault, CHEBYSHEV, 21)
        self.refused(InvalidNumber(25), mirror_fault, SHORT, 25)
        self.refused(InvalidOperation, mirror_fault, Quotient((60,), (1,)), 24)
        self.assertIsNone(mirror_fault(SERIED[0], 0))
