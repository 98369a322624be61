"""Places of rising rows round the circle: whether tops and bottoms take turns, at one unit and at all."""

from wholerises.base.numbers import check_number, divisor_of_all, units_of
from wholerises.base.ratios import check_ratio, reduced
from wholerises.circle.products import difference_of
from wholerises.errors import InvalidOperation
from wholerises.rise.risings import MOST_COMMON, Rising, check_rising, check_unit, common_of, image_under, turned_by
from wholerises.rise.risings import turns_of

MOST_PAIRED = 30


def counts_at(turns, unit, common):
    """The list of how often the images under a unit stand, by size; below 0 for bottoms."""
    return [count for image, count in turned_by(turns, unit, common)]


def each_mate(rising):
    """Yields the images under all units, each once, in the order of the least units that make them."""
    check_rising(rising)
    turns = turns_of(rising)
    seen = {}
    for unit in units_of(rising.common):
        told = tuple(turned_by(turns, unit, rising.common))
        if told not in seen:
            seen[told] = True
            yield image_under(rising, unit)


def turned(rising, ratio):
    """The row turned by a fraction."""
    check_rising(rising)
    check_ratio(ratio)
    tops = tuple([moved(place, ratio) for place in rising.tops])
    bottoms = tuple([moved(place, ratio) for place in rising.bottoms])
    if common_of(tops + bottoms) > MOST_COMMON:
        raise InvalidOperation("the common bottom of the moved places is too great")
    return Rising(tops, bottoms)


def moved(place, ratio):
    """The fraction above 0 and up to 1 that differs from the sum of both by an integer."""
    top = place[0] * ratio[1] + ratio[0] * place[1]
    bottom = place[1] * ratio[1]
    return reduced((top - 1) % bottom + 1, bottom)


def does_alternate(rising, unit):
    """Whether the image under the unit has no place twice, and tops and bottoms take turns in it."""
    check_rising(rising)
    check_unit(rising, unit)
    return do_alternate(counts_at(turns_of(rising), unit, rising.common))


def do_alternate(counts):
    """Whether equally many tops and bottoms, counted by size, take turns."""
    if abs(counts[0]) != 1:
        return False
    return all([before + behind == 0 for before, behind in zip(counts, counts[1:])])


def does_alternate_at_all(rising):
    """Whether the row alternates at all units."""
    check_rising(rising)
    turns = turns_of(rising)
    for unit in units_of(rising.common):
        if not do_alternate(counts_at(turns, unit, rising.common)):
            return False
    return True


def alternating_units(rising):
    """The ascending tuple of the units at which the row alternates."""
    check_rising(rising)
    turns = turns_of(rising)
    common = rising.common
    return tuple([unit for unit in units_of(common) if do_alternate(counts_at(turns, unit, common))])


def difference_of_signs(rising, unit):
    """The difference of signs of the image under the unit."""
    check_rising(rising)
    check_unit(rising, unit)
    return difference_of(counts_at(turns_of(rising), unit, rising.common))


def least_difference(rising):
    """The pair of the least unit at which the difference of signs is least, and of this difference."""
    check_rising(rising)
    turns = turns_of(rising)
    common = rising.common
    units = units_of(common)
    told = [difference_of(counts_at(turns, unit, common)) for unit in units]
    least = min(told)
    return (units[told.index(least)], least)


def pairs_at_all(number):
    """All triples (f, g, h), f below g and h below 1, whose row with the tops f, g and the bottoms h, 1 alternates.

    It alternates at all units, and the number is just its common bottom.
    """
    check_number(number, 2, MOST_PAIRED)
    units = units_of(number)
    found = []
    for middle in range(1, number):
        sides = sides_at(middle, units, number)
        for one in range(1, middle):
            # The images of both tops lie on both sides of that of the bottom that is not 1, at each unit.
            wanted = tuple([not side for side in sides[one]])
            for other in range(middle + 1, number):
                if sides[other] == wanted and divisor_of_all((one, other, middle, number)) == 1:
                    found.append((one, other, middle))
    return tuple([tuple([reduced(turn, number) for turn in told]) for told in sorted(found)])


def sides_at(middle, units, number):
    """For each turn, the tuple that tells at each unit whether its image is below that of the middle one."""
    return [tuple([turn * unit % number < middle * unit % number for unit in units]) for turn in range(number)]
