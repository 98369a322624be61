"""Mirrors of balanced rows: series that have only integers for some rows."""

from wholerises.base.numbers import check_number, check_prime
from wholerises.base.ratios import ceiling, check_ratio, reduced
from wholerises.errors import InvalidOperation, TooMany
from wholerises.mirror.series import MAX_TERMS, back_of, exp_of, harmonic_tops, quotient_of_terms
from wholerises.row.quotients import MAX_MEMBER, MOST_FACTORIAL, check_balanced, check_row
from wholerises.stair.wholes import check_whole, is_whole, late_zero


def check_terms(row, most):
    """Raises the errors of a row that is not balanced, or has no number with this index within the bound."""
    check_balanced(row)
    if row.greatest * most > MOST_FACTORIAL:
        raise TooMany(MOST_FACTORIAL)


def check_many(row, many):
    """Raises the errors of the row and of how many terms are wanted."""
    check_row(row)
    check_number(many, 1, MAX_TERMS)
    check_terms(row, many - 1)


def numbers_with(row, tops, bottom):
    """The list of the numbers of the row, multiplied by fractions that are told by their tops and one bottom."""
    found = []
    for number, top in enumerate(tops):
        value = row.value(number)
        found.append(reduced(value[0] * top, value[1] * bottom))
    return found


def first_series(row, many):
    """So many terms of F."""
    check_many(row, many)
    return first_terms(row, many)


def first_terms(row, many):
    """So many terms of F, for what surely are such arguments."""
    return tuple([row.value(number) for number in range(many)])


def second_series(row, many):
    """So many terms of G."""
    check_many(row, many)
    return second_terms(row, many)


def second_terms(row, many):
    """So many terms of G, for what surely are such arguments."""
    harmonics, bottom = harmonic_tops(row.greatest * (many - 1))
    tops = [sum([count * member * harmonics[member * number] for member, count in row]) for number in range(many)]
    return tuple(numbers_with(row, tops, bottom))


def mirror(row, many):
    """So many terms of the mirror."""
    check_many(row, many)
    return mirror_terms(row, many)


def mirror_terms(row, many):
    """So many terms of the mirror, for what surely are such arguments."""
    return exp_of(quotient_of_terms(second_terms(row, many), first_terms(row, many)))


def back_mirror(row, many):
    """So many terms of the back mirror."""
    check_many(row, many)
    if many == 1:
        return ((0, 1),)
    return back_of(((0, 1),) + mirror_terms(row, many - 1))


def part_mirror(row, number, many):
    """So many terms of the part mirror for a number."""
    check_row(row)
    check_number(number, 1, MAX_MEMBER)
    check_many(row, many)
    harmonics, bottom = harmonic_tops(number * (many - 1))
    terms = numbers_with(row, harmonics[::number], bottom)
    return exp_of(quotient_of_terms(terms, first_terms(row, many)))


def weight_at(row, ratio):
    """The weight of the row at a fraction of at least 0 and below 1."""
    check_row(row)
    check_ratio(ratio)
    check_balanced(row)
    if not 0 <= ratio[0] < ratio[1]:
        raise InvalidOperation("the fraction is not at least 0 and below 1")
    return weight_of(row, ratio)


def weight_of(row, ratio):
    """The weight at what surely is such a fraction."""
    harmonics, bottom = harmonic_tops(row.greatest)
    return reduced(sum([count * member * harmonics[member * ratio[0] // ratio[1]] for member, count in row]), bottom)


def is_mirror_whole(row):
    """Whether all terms of the mirror are integers."""
    return mirror_place(row) is None


def mirror_place(row):
    """The least fraction of at least 1 / M at which the depth is 0, or None."""
    check_row(row)
    check_balanced(row)
    check_whole(row)
    return late_zero(row)


def mirror_witness(row, prime):
    """The index of the first term of the mirror whose bottom the prime divides."""
    check_row(row)
    check_prime(prime)
    place = mirror_place(row)
    if place is None or prime <= row.greatest ** 2:
        raise InvalidOperation("the mirror is whole, or the prime is not above the square of the greatest member")
    if weight_of(row, place)[0] % prime == 0:
        raise InvalidOperation("the prime divides the top of the weight")
    return ceiling(place[0] * prime, place[1])


def mirror_fault(row, most):
    """The least index up to `most` of a term of the mirror that is no integer, or None."""
    check_row(row)
    check_number(most, 0, MAX_TERMS - 1)
    check_terms(row, most)
    if is_whole(row) and late_zero(row) is None:
        return None
    for number, term in enumerate(mirror_terms(row, most + 1)):
        if term[1] > 1:
            return number
    return None
