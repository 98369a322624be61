"""Rising rows: quotients of rising products of fractions, told by their places."""

from math import gcd, lcm

from wholerises.base.numbers import check_number, check_prime, inverse, is_between, power_of, times_within, totient
from wholerises.base.ratios import check_ratio, is_ratio, reduced
from wholerises.circle.products import degree_of, places, row_with
from wholerises.errors import InvalidNumber, InvalidOperation, InvalidRising
from wholerises.row.quotients import MAX_INDEX, check_row, counted

MOST_PLACES = 6
MOST_COMMON = 840
MOST_VALUE = 100


def rising_product(ratio, number):
    """The rising product of a fraction."""
    check_ratio(ratio)
    check_number(number, 0, MOST_VALUE)
    first, bottom = ratio
    top = 1
    for index in range(number):
        top = top * (first + index * bottom)
    return reduced(top, power_of(bottom, number))


def are_places(value):
    """Whether the value is a tuple of one to six ratios above 0 and up to 1."""
    if not isinstance(value, tuple) or not 1 <= len(value) <= MOST_PLACES:
        return False
    return all([is_ratio(place) and 0 < place[0] <= place[1] for place in value])


def common_of(fractions):
    """The least common multiple of the bottoms of fractions."""
    common = 1
    for top, bottom in fractions:
        common = lcm(common, bottom)
    return common


def step_of(place, prime):
    """The integer that the prime divides in the places above this one first, and the place that is the step."""
    top, bottom = place
    first = -top * inverse(bottom, prime) % prime
    return first, ((top + first * bottom) // prime, bottom)


def product_exponent(prime, place, number):
    """The exponent of the prime in the rising product of a place."""
    if place[1] % prime == 0:
        return -number * times_within(prime, place[1])
    exponent = 0
    many = number
    left = place
    while many > 0:
        # What the prime divides is, without it, the rising product of the step.
        first, left = step_of(left, prime)
        many = (many - first + prime - 1) // prime
        exponent = exponent + many
    return exponent


def image_of(place, unit):
    """The image of a place under a unit."""
    top, bottom = place
    return ((top * unit - 1) % bottom + 1, bottom)


def places_text(fractions):
    """Places as a text."""
    return " ".join([f"{top}/{bottom}" for top, bottom in fractions])


class Rising:
    """A rising row. It never changes."""

    def __init__(self, tops, bottoms):
        if not are_places(tops) or not are_places(bottoms) or len(tops) != len(bottoms):
            raise InvalidRising("a side is no tuple of places, or the sides are not equally long")
        counts = counted(tops, bottoms)
        common = common_of(counts)
        if not counts or common > MOST_COMMON:
            raise InvalidRising("no place is left, or the common bottom is too great")
        told = sorted([(top * (common // bottom), (top, bottom), counts[(top, bottom)]) for top, bottom in counts])
        self._tops = tuple([place for turn, place, count in told for _ in range(count)])
        self._bottoms = tuple([place for turn, place, count in told for _ in range(-count)])
        self._common = common
        self._pairs = tuple([(place, 1 if count > 0 else -1) for turn, place, count in told for _ in range(abs(count))])

    @property
    def tops(self):
        """The places of the tops, by size, with repeats."""
        return self._tops

    @property
    def bottoms(self):
        """The places of the bottoms, by size, with repeats."""
        return self._bottoms

    @property
    def common(self):
        """The least common multiple of the bottoms of the places."""
        return self._common

    def value(self, number):
        """The number u(n), a ratio."""
        check_number(number, 0, MOST_VALUE)
        return self._quotient_over(list(range(number)))

    def factor(self, number):
        """The quotient of u(n + 1) and u(n), a ratio."""
        check_number(number, 0, MOST_VALUE)
        return self._quotient_over([number])

    def _quotient_over(self, numbers):
        """The quotient of the products of all places plus all numbers, a ratio."""
        top = 1
        bottom = 1
        for first, size in self._tops:
            bottom = bottom * power_of(size, len(numbers))
            for number in numbers:
                top = top * (first + number * size)
        for first, size in self._bottoms:
            top = top * power_of(size, len(numbers))
            for number in numbers:
                bottom = bottom * (first + number * size)
        return reduced(top, bottom)

    def exponent(self, prime, number):
        """The exponent of the prime in u(n)."""
        check_prime(prime)
        check_number(number, 0, MAX_INDEX)
        return sum([sign * product_exponent(prime, place, number) for place, sign in self._pairs])

    def image(self, unit):
        """The rising row of the images."""
        check_unit(self, unit)
        return image_under(self, unit)

    def undoing(self, prime):
        """The unit that undoes the prime."""
        check_prime(prime)
        if self._common % prime == 0:
            raise InvalidOperation("the prime divides the common bottom")
        return inverse(prime, self._common)

    def step(self, prime):
        """The rising row of the steps of the places."""
        return image_under(self, self.undoing(prime))

    def steps(self, prime):
        """The tuple of the row and of its further steps, until the row would come again."""
        unit = self.undoing(prime)
        found = [self]
        behind = image_under(self, unit)
        while behind != self:
            found.append(behind)
            behind = image_under(behind, unit)
        return tuple(found)

    def __eq__(self, other):
        return isinstance(other, Rising) and self._tops == other._tops and self._bottoms == other._bottoms

    def __len__(self):
        return len(self._tops)

    def __iter__(self):
        return iter(self._pairs)

    def __str__(self):
        return f"rising {places_text(self._tops)} over {places_text(self._bottoms)}"


def check_rising(rising):
    """Raises InvalidRising unless a rising row is given."""
    if not isinstance(rising, Rising):
        raise InvalidRising("no rising row")


def check_unit(rising, unit):
    """Raises InvalidNumber unless a unit of the rising row is given."""
    if not is_between(unit, 1, rising.common) or gcd(unit, rising.common) != 1:
        raise InvalidNumber(unit)


def image_under(rising, unit):
    """The image of a rising row under what is surely a unit."""
    return Rising(tuple([image_of(place, unit) for place in rising.tops]),
                  tuple([image_of(place, unit) for place in rising.bottoms]))


def turns_of(rising):
    """The list of the pairs (turn, how often) for all unlike places, by size.

    A place is its turn, divided by the common bottom; how often is below 0 for a bottom.
    """
    common = rising.common
    found = {}
    for (top, bottom), sign in rising:
        turn = top * (common // bottom)
        found[turn] = found.get(turn, 0) + sign
    return [(turn, found[turn]) for turn in found]


def turned_by(turns, unit, common):
    """The images of such pairs under a unit, by size."""
    return sorted([((turn * unit - 1) % common + 1, count) for turn, count in turns])


def rising_of(row):
    """The pair of the rising row that a balanced row tells, and of the fraction K of [8.4]."""
    check_row(row)
    if not row.is_balanced or row.common > MOST_COMMON or degree_of(row) > MOST_PLACES:
        raise InvalidOperation("the row tells no rising row that is let")
    tops, bottoms = places(row)
    return Rising(tops, bottoms), scale_of(row)


def scale_of(row):
    """The product of a ** a over the tops, divided by that over the bottoms."""
    top = 1
    bottom = 1
    for member, count in row:
        if count > 0:
            top = top * power_of(member, member * count)
        else:
            bottom = bottom * power_of(member, member * -count)
    return reduced(top, bottom)


def quotient_of(rising):
    """The balanced quotient row that tells the rising row, or None."""
    check_rising(rising)
    found = {}
    seen = {}
    for turn, count in turns_of(rising):
        number = rising.common // gcd(turn, rising.common)
        if found.get(number, count) != count:
            return None
        found[number] = count
        seen[number] = seen.get(number, 0) + 1
    for number in seen:
        if seen[number] != totient(number):
            return None
    return row_with(found)
