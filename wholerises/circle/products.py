"""Products and places: the parts of a quotient row, and the turns at which its products are 0."""

from wholerises.base.numbers import divisors_of, is_between, sign_divisors, totient, units_of
from wholerises.base.polynomials import cyclotomic_parts, cyclotomic_product
from wholerises.base.ratios import check_ratio, is_long_ratio
from wholerises.errors import InvalidOperation, TooMany
from wholerises.row.quotients import MAX_MEMBER, check_row, does_tell_row, row_of_members

MAX_DEGREE = 40
MAX_PARTS = 60
MAX_PART = 60


def parts(row):
    """The dict from each integer with a part other than 0 to this part."""
    check_row(row)
    return parts_of(row)


def parts_of(row):
    """The parts of what is surely a row."""
    found = {}
    for member, count in row:
        for divisor in divisors_of(member):
            found[divisor] = found.get(divisor, 0) + count
    return without_zeros(found)


def without_zeros(counts):
    """The dict without the keys at which it has 0, ascending."""
    return {key: counts[key] for key in sorted(counts) if counts[key] != 0}


def are_parts(value):
    """Whether the value is a dict of 1 to 60 pairs as they can be parts."""
    if not isinstance(value, dict) or not 1 <= len(value) <= MAX_PARTS:
        return False
    if not all([is_between(number, 1, MAX_MEMBER) for number in value]):
        return False
    return all([is_between(count, -MAX_PART, MAX_PART) and count != 0 for count in value.values()])


def row_of_parts(parts):
    """The row with these parts, or None."""
    if not are_parts(parts):
        raise InvalidOperation("these are no parts")
    return row_with(parts)


def row_with(counts):
    """The row with the parts that a dict tells, some of which can be 0, or None if there is none."""
    members = {}
    for number, count in counts.items():
        for divisor, sign in sign_divisors(number):
            members[divisor] = members.get(divisor, 0) + sign * count
    told = without_zeros(members)
    return row_of_members(told) if does_tell_row(told) else None


def degree_of(row):
    """The greater one of the degrees of both products."""
    check_row(row)
    return degree_in(parts_of(row))


def degree_in(counts):
    """The degree of the row with the parts that the dict tells."""
    top = sum([totient(number) * count for number, count in counts.items() if count > 0])
    bottom = sum([totient(number) * -count for number, count in counts.items() if count < 0])
    return max(top, bottom)


def products(row):
    """The pair of the products P and Q, polynomials."""
    check_row(row)
    counts = parts_of(row)
    if degree_in(counts) > MAX_DEGREE:
        raise TooMany(MAX_DEGREE)
    return products_in(counts)


def products_in(counts):
    """The products of the row with the parts that the dict tells, of any degree."""
    one = cyclotomic_product({number: count for number, count in counts.items() if count > 0})
    other = cyclotomic_product({number: -count for number, count in counts.items() if count < 0})
    return one, other


def row_of_products(one, other):
    """The row whose products have the quotient of both polynomials, or None."""
    tops = cyclotomic_parts(one)
    bottoms = cyclotomic_parts(other)
    if tops is None or bottoms is None:
        return None
    for number, count in bottoms.items():
        tops[number] = tops.get(number, 0) - count
    return row_with(tops)


def ascending_places(row):
    """The list of the pairs (place, part) for all unlike places, by size."""
    counts = parts_of(row)
    common = row.common
    found = {}
    for number in counts:
        for unit in units_of(number):
            found[unit * (common // number)] = (unit, number)
    return [(found[turn], counts[found[turn][1]]) for turn in sorted(found)]


def places(row):
    """The pair of the places of the tops and of those of the bottoms, by size, with repeats."""
    check_row(row)
    tops = []
    bottoms = []
    for place, part in ascending_places(row):
        tops = tops + [place] * part
        bottoms = bottoms + [place] * -part
    return tuple(tops), tuple(bottoms)


def each_place(row):
    """Yields the pairs (place, part) for all unlike places, by size."""
    check_row(row)
    for place, part in ascending_places(row):
        yield (place, part)


def has_place(row, value):
    """Whether the value is a place of the row."""
    check_row(row)
    return is_long_ratio(value) and 0 < value[0] <= value[1] and value[1] in parts_of(row)


def depth_by_places(row, ratio):
    """The depth at a fraction of at least 0, from the places up to its rest below 1."""
    check_row(row)
    check_ratio(ratio)
    top, bottom = ratio
    if top < 0:
        raise InvalidOperation("there is no depth below 0")
    whole = top // bottom
    rest = top % bottom
    depth = whole * row.excess
    for number, part in parts_of(row).items():
        most = rest * number // bottom
        depth = depth + part * len([unit for unit in units_of(number) if unit <= most])
    return depth


def half_turned(row):
    """The row whose places are moved by half a turn, or None."""
    check_row(row)
    return row_with({half_turned_number(number): count for number, count in parts_of(row).items()})


def half_turned_number(number):
    """The integer to which the part of this one goes by the half turn."""
    if number % 2 == 1:
        return 2 * number
    return number // 2 if number % 4 == 2 else number


def difference_of(counts):
    """The difference of signs for the counts of unlike places, by size: above 0 tops, below 0 bottoms."""
    total = 0
    sign = -1
    for count in counts:
        # Each place of either kind turns the sign over.
        if count > 0 and count % 2 == 1:
            total = total + sign
        if count % 2 == 1:
            sign = -sign
    return abs(total)
