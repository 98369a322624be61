"""Units: the walks of a rising row through its images, and what they tell of its numbers."""

from math import gcd

from wholerises.base.numbers import check_prime, inverse, is_long_integer, power_of, prime_factors, times_within
from wholerises.base.numbers import units_of
from wholerises.base.ratios import is_long_ratio, reduced
from wholerises.errors import InvalidOperation, Refused
from wholerises.rise.risings import check_rising, check_unit, turned_by, turns_of


def heights_at(turns, unit, common):
    """The list of the pairs (image, height behind it) of a walk, the images in parts of the common bottom."""
    height = 0
    found = []
    for image, count in turned_by(turns, unit, common):
        height = height + count
        found.append((image, height))
    return found


def first_below(turns, unit, common):
    """The first image of a walk at which the height is below 0, or None."""
    for image, height in heights_at(turns, unit, common):
        if height < 0:
            return image
    return None


def walk_at(turns, unit, common):
    """The walk at a unit."""
    return tuple([(reduced(image, common), height) for image, height in heights_at(turns, unit, common)])


def walk(rising, unit):
    """The tuple of the pairs (image, height behind it), with ascending images."""
    check_rising(rising)
    check_unit(rising, unit)
    return walk_at(turns_of(rising), unit, rising.common)


def each_walk(rising):
    """Yields the pairs (unit, walk) for all units, ascending."""
    check_rising(rising)
    turns = turns_of(rising)
    for unit in units_of(rising.common):
        yield (unit, walk_at(turns, unit, rising.common))


def broken_units(rising):
    """The ascending tuple of the units whose walk is below 0 somewhere."""
    check_rising(rising)
    turns = turns_of(rising)
    common = rising.common
    return tuple([unit for unit in units_of(common) if first_below(turns, unit, common) is not None])


def is_whole_up_to_powers(rising):
    """Whether no unit is broken."""
    return rising_fault(rising) is None


def rising_fault(rising):
    """The pair of the least broken unit, and of the place at whose image its walk is below 0 first; or None."""
    check_rising(rising)
    turns = turns_of(rising)
    common = rising.common
    for unit in units_of(common):
        image = first_below(turns, unit, common)
        if image is not None:
            return (unit, reduced(turn_under(image, unit, common), common))
    return None


def turn_under(image, unit, common):
    """The turn whose image under the unit is this one."""
    return (image * inverse(unit, common) - 1) % common + 1


def is_rising_fault(rising, value):
    """Whether the value is a pair of a unit and a place of the bottoms at whose image the walk is below 0."""
    check_rising(rising)
    if not isinstance(value, tuple) or len(value) != 2:
        return False
    unit, place = value
    common = rising.common
    if not is_long_integer(unit) or not 1 <= unit <= common or gcd(unit, common) != 1:
        return False
    if not is_long_ratio(place) or place not in rising.bottoms:
        return False
    wanted = (place[0] * (common // place[1]) * unit - 1) % common + 1
    below = [image for image, height in heights_at(turns_of(rising), unit, common) if height < 0]
    return wanted in below


def rising_witness(rising, prime):
    """The least n at which the prime has an exponent below 0 in u(n), if the unit that undoes it is broken."""
    check_rising(rising)
    check_prime(prime)
    common = rising.common
    if prime <= common:
        raise InvalidOperation("the prime is not above the common bottom")
    unit = rising.undoing(prime)
    image = first_below(turns_of(rising), unit, common)
    if image is None:
        raise Refused(("unit", unit))
    return (prime * image - turn_under(image, unit, common)) // common + 1


def constant(rising):
    """The constant C of [9.4]: C ** n * u(n) is an integer for every n."""
    fault = rising_fault(rising)
    if fault is not None:
        raise Refused(("fault", fault))
    product = 1
    for prime in prime_factors(rising.common):
        product = product * power_of(prime, max(0, constant_exponent(rising, prime)))
    return product


def constant_exponent(rising, prime):
    """The sum E of [9.4]."""
    exponent = 0
    for (top, bottom), sign in rising:
        exponent = exponent + sign * times_within(prime, bottom)
    many = len([place for place in rising.bottoms if place[1] % prime != 0])
    return exponent + many * (2 + least_length(prime, rising.common))


def least_length(prime, number):
    """The least integer l with prime ** l at least the number."""
    length = 0
    power = 1
    while power < number:
        power = power * prime
        length = length + 1
    return length


def worst_height(rising):
    """The pair of the least height of all walks, and of the least unit whose walk has it."""
    check_rising(rising)
    turns = turns_of(rising)
    common = rising.common
    worst = (0, 1)
    for unit in units_of(common):
        least = min([height for image, height in heights_at(turns, unit, common)])
        if least < worst[0]:
            worst = (least, unit)
    return worst
