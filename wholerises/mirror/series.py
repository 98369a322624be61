"""Series: power series as far as they are told, tuples of 1 to 25 ratios."""

from math import gcd, isqrt, lcm

from wholerises.base.numbers import check_number
from wholerises.base.ratios import is_long_ratio, reduced
from wholerises.errors import InvalidOperation, InvalidSeries

MAX_TERMS = 25
MAX_HARMONIC = 2000


def is_series(value):
    """Whether the value is a series, with integers of any size."""
    if not isinstance(value, tuple) or not 1 <= len(value) <= MAX_TERMS:
        return False
    return all([is_long_ratio(item) for item in value])


def check_series(series):
    """Raises InvalidSeries unless a series is given."""
    if not is_series(series):
        raise InvalidSeries("no series")


def total_of(fractions):
    """The sum of fractions, pairs (top, bottom) that need not be in lowest terms, the bottoms not 0."""
    common = 1
    for top, bottom in fractions:
        if common % bottom != 0:
            common = lcm(common, bottom)
    return reduced(sum([top * (common // bottom) for top, bottom in fractions]), common)


def products_of(ones, others):
    """The list of the products of the first fractions and the others, not in lowest terms."""
    return [(one[0] * other[0], one[1] * other[1]) for one, other in zip(ones, others)]


def with_common(terms):
    """The pair of the list of the tops of fractions, and of their common bottom."""
    common = 1
    for top, bottom in terms:
        if common % bottom != 0:
            common = lcm(common, bottom)
    return [top * (common // bottom) for top, bottom in terms], common


def folded(ones, others):
    """The integers of the product of two series that are told by integers, as many as the second one has."""
    return [sum([one * other for one, other in zip(ones, others[place::-1])]) for place in range(len(others))]


def series_product(one, other):
    """The product of two series."""
    check_series(one)
    check_series(other)
    many = min(len(one), len(other))
    ones, bottom = with_common(one[:many])
    others, scale = with_common(other[:many])
    return tuple([reduced(item, bottom * scale) for item in folded(ones, others)])


def series_quotient(one, other):
    """The quotient of two series, the term 0 of the second one not 0."""
    check_series(one)
    check_series(other)
    if other[0][0] == 0:
        raise InvalidOperation("the term 0 of the second series is 0")
    return quotient_of_terms(one, other)


def quotient_of_terms(one, other):
    """The quotient of what are surely such series."""
    # Both are divided by the term 0 of the second one, which is 1 then.
    bottom, top = other[0]
    less = [reduced(-item * top, scale * bottom) for item, scale in other]
    made = []
    for place in range(min(len(one), len(other))):
        first = (one[place][0] * top, one[place][1] * bottom)
        made.append(total_of([first] + products_of(less[1:place + 1], made[::-1])))
    return tuple(made)


def series_exp(series):
    """The exp of a series with the term 0 equal to 0."""
    check_series(series)
    if series[0][0] != 0:
        raise InvalidOperation("the term 0 is not 0")
    return exp_of(series)


def exp_of(series):
    """The exp of what is surely such a series."""
    # The derivative of the exp is its product with that of the series.
    slopes = [reduced(place * top, bottom) for place, (top, bottom) in enumerate(series)]
    made = [(1, 1)]
    for place in range(1, len(series)):
        top, bottom = total_of(products_of(slopes[1:place + 1], made[::-1]))
        made.append(reduced(top, bottom * place))
    return tuple(made)


def series_log(series):
    """The log of a series with the term 0 equal to 1."""
    check_series(series)
    if series[0] != (1, 1):
        raise InvalidOperation("the term 0 is not 1")
    less = [(-top, bottom) for top, bottom in series]
    slopes = [(0, 1)]
    for place in range(1, len(series)):
        top, bottom = series[place]
        slopes.append(total_of([(place * top, bottom)] + products_of(less[1:place], slopes[:0:-1])))
    return tuple([(0, 1)] + [reduced(slopes[place][0], slopes[place][1] * place) for place in range(1, len(series))])


def series_back(series):
    """The series that is back of a series whose term 0 is 0 and whose term 1 is not."""
    check_series(series)
    if series[0][0] != 0 or len(series) < 2 or series[1][0] == 0:
        raise InvalidOperation("the term 0 is not 0, or the term 1 is 0")
    return back_of(series)


def back_of(series):
    """What is back of what is surely such a series."""
    one = ((1, 1),) + ((0, 1),) * (len(series) - 2)
    # The term n is that of the power n of z / series with the index n - 1, divided by n.
    first = with_common(quotient_of_terms(one, series[1:]))
    step = isqrt(len(series))
    # As each power is a product of one of the first ones and one of every so many, few products are wanted.
    low = powers_of(first, step + 1)
    high = powers_of(low[step], (len(series) - 1) // step + 1)
    made = [(0, 1)]
    for place in range(1, len(series)):
        ones, bottom = high[place // step]
        others, scale = low[place % step]
        top = sum([item * factor for item, factor in zip(ones, others[place - 1::-1])])
        made.append(reduced(top, bottom * scale * place))
    return tuple(made)


def powers_of(told, many):
    """The list of so many powers of a series, from the power 0 on; each is told by tops and their common bottom."""
    tops, bottom = told
    powers = [([1] + [0] * (len(tops) - 1), 1)]
    for _ in range(1, many):
        ones, scale = powers[-1]
        powers.append(lowered(folded(ones, tops), scale * bottom))
    return powers


def lowered(tops, bottom):
    """The tops and their common bottom, divided by what they have in common."""
    divisor = bottom
    for top in tops:
        if divisor == 1:
            return tops, bottom
        divisor = gcd(divisor, top)
    return [top // divisor for top in tops], bottom // divisor


def harmonic_tops(most):
    """The pair of the list of the tops of H(0), .., H(most), and of their common bottom."""
    common = 1
    for number in range(2, most + 1):
        if common % number != 0:
            common = lcm(common, number)
    tops = [0]
    for number in range(1, most + 1):
        tops.append(tops[-1] + common // number)
    return tops, common


def harmonic(number):
    """The sum of 1 / k for k from 1 to the number, a ratio."""
    check_number(number, 0, MAX_HARMONIC)
    tops, common = harmonic_tops(number)
    return reduced(tops[-1], common)
