"""Quotient rows: quotients of products of factorials, told by their tops and bottoms."""

from math import perm

from wholerises.base.numbers import check_number, check_prime, common_divisor, common_multiple, factorial_exponent
from wholerises.base.numbers import is_between, is_integer, is_long_integer
from wholerises.base.ratios import factorial_ratio, is_long_pair, reduced
from wholerises.errors import InvalidOperation, InvalidRow, TooMany

MAX_MEMBER = 60
MAX_SIDE = 8
MAX_COMMON = 2520
MOST_FACTORIAL = 600
MAX_INDEX = 10 ** 30
MAX_STEP = 10 ** 6


def is_side(value):
    """Whether the value is a tuple of at most eight integers from 1 to 60."""
    if not isinstance(value, tuple) or len(value) > MAX_SIDE:
        return False
    return all([is_between(item, 1, MAX_MEMBER) for item in value])


def counted(tops, bottoms):
    """The dict from each member that is left to how often it is a top, or, below 0, a bottom."""
    found = {}
    for member in tops:
        found[member] = found.get(member, 0) + 1
    for member in bottoms:
        found[member] = found.get(member, 0) - 1
    return {member: found[member] for member in sorted(found) if found[member] != 0}


def sides_of(counts):
    """The pair of the ascending tops and the ascending bottoms, with repeats, of a dict as above."""
    tops = []
    bottoms = []
    for member in sorted(counts):
        tops = tops + [member] * counts[member]
        bottoms = bottoms + [member] * -counts[member]
    return tuple(tops), tuple(bottoms)


def are_members(value):
    """Whether the value is a dict from integers from 1 to 60 to integers other than 0."""
    if not isinstance(value, dict):
        return False
    if not all([is_between(member, 1, MAX_MEMBER) for member in value]):
        return False
    return all([is_integer(count) and count != 0 for count in value.values()])


def does_tell_row(members):
    """Whether a dict from integers above 0 to integers other than 0 tells a quotient row."""
    if not members or max(members) > MAX_MEMBER:
        return False
    counts = list(members.values())
    if sum([count for count in counts if count > 0]) > MAX_SIDE:
        return False
    if sum([-count for count in counts if count < 0]) > MAX_SIDE:
        return False
    return common_multiple(tuple(members)) <= MAX_COMMON


def row_of_members(members):
    """The row of a dict from integers above 0 to integers other than 0."""
    if not does_tell_row(members):
        raise InvalidOperation("this is no quotient row")
    tops, bottoms = sides_of(members)
    return Quotient(tops, bottoms)


def side_text(members):
    """The members of one side as a text."""
    return " ".join([str(member) for member in members]) if members else "-"


class Quotient:
    """A quotient row. It never changes."""

    def __init__(self, tops, bottoms):
        if not is_side(tops) or not is_side(bottoms):
            raise InvalidRow("a side is no tuple of at most eight integers from 1 to 60")
        members = counted(tops, bottoms)
        if not does_tell_row(members):
            raise InvalidRow("what is left is no quotient row")
        left, right = sides_of(members)
        self._tops = left[::-1]
        self._bottoms = right[::-1]
        self._sides = self._tops + self._bottoms
        self._pairs = tuple([(member, members[member]) for member in members])

    @classmethod
    def binomial(cls, one, other):
        """The row with the top one + other and the bottoms one and other."""
        check_number(one, 1, MAX_MEMBER - 1)
        check_number(other, 1, MAX_MEMBER - 1)
        if not does_tell_row(counted((one + other,), (one, other))):
            raise InvalidOperation("this is no quotient row")
        return cls((one + other,), (one, other))

    @classmethod
    def of_members(cls, members):
        """The row with these members, told as by the property `members`."""
        if not are_members(members) or not does_tell_row(members):
            raise InvalidRow("these members tell no quotient row")
        tops, bottoms = sides_of(members)
        return cls(tops, bottoms)

    @property
    def tops(self):
        """The tops, from the greatest to the least, with repeats."""
        return self._tops

    @property
    def bottoms(self):
        """The bottoms, from the greatest to the least, with repeats."""
        return self._bottoms

    @property
    def members(self):
        """The dict from each member to how often it is a top, or, below 0, how often it is a bottom."""
        return dict(self._pairs)

    @property
    def greatest(self):
        """The greatest member."""
        return max(self._sides)

    @property
    def common(self):
        """The least common multiple of the members."""
        return common_multiple(self._sides)

    @property
    def excess(self):
        """The sum of the tops less the sum of the bottoms."""
        return sum(self._tops) - sum(self._bottoms)

    @property
    def height(self):
        """The number of the bottoms less the number of the tops."""
        return len(self._bottoms) - len(self._tops)

    @property
    def is_balanced(self):
        """Whether the excess is 0."""
        return sum(self._tops) == sum(self._bottoms)

    def value(self, number):
        """The number u(n), a ratio."""
        check_number(number, 0, MOST_FACTORIAL)
        if self.greatest * number > MOST_FACTORIAL:
            raise TooMany(MOST_FACTORIAL)
        return factorial_ratio([top * number for top in self._tops], [bottom * number for bottom in self._bottoms])

    def exponent(self, prime, number):
        """The exponent of the prime in u(n)."""
        check_prime(prime)
        check_number(number, 0, MAX_INDEX)
        return exponent_at(self, prime, number)

    def step(self, number):
        """The quotient of u(n + 1) and u(n), a ratio."""
        check_number(number, 0, MAX_STEP)
        top = 1
        for member in self._tops:
            top = top * perm(member * (number + 1), member)
        bottom = 1
        for member in self._bottoms:
            bottom = bottom * perm(member * (number + 1), member)
        return reduced(top, bottom)

    def each_value(self):
        """Yields u(0), u(1), .., as long as no factorial of an integer above 600 is wanted."""
        for number in range(MOST_FACTORIAL // self.greatest + 1):
            yield self.value(number)

    def exchanged(self):
        """The row with tops and bottoms exchanged."""
        return Quotient(self._bottoms, self._tops)

    def divided(self):
        """The row with the members divided by their greatest common divisor."""
        divisor = common_divisor(self._sides)
        return row_of_members({member // divisor: count for member, count in self._pairs})

    def __mul__(self, other):
        check_number(other, 1, MAX_MEMBER)
        return row_of_members({member * other: count for member, count in self._pairs})

    def __add__(self, other):
        check_row(other)
        return row_of_members(counted(self._tops + other._tops, self._bottoms + other._bottoms))

    def __eq__(self, other):
        return isinstance(other, Quotient) and self._tops == other._tops and self._bottoms == other._bottoms

    def __len__(self):
        return len(self._sides)

    def __iter__(self):
        return iter(self._pairs)

    def __contains__(self, x):
        return is_long_integer(x) and x in self._sides

    def __str__(self):
        return f"quotient {side_text(self._tops)}/{side_text(self._bottoms)}"


def check_row(row):
    """Raises InvalidRow unless a quotient row is given."""
    if not isinstance(row, Quotient):
        raise InvalidRow("no quotient row")


def check_balanced(row):
    """Raises InvalidOperation unless the row is balanced."""
    if not row.is_balanced:
        raise InvalidOperation("the row is not balanced")


def exponent_at(row, prime, number):
    """The exponent of the prime in u(n), for an integer n of any size of at least 0."""
    return sum([count * factorial_exponent(prime, member * number) for member, count in row])


def is_beginning(row, value):
    """Whether the value is the tuple of u(0), u(1) and so on, as many as `each_value` yields or fewer."""
    check_row(row)
    if not isinstance(value, tuple) or not 1 <= len(value) <= MOST_FACTORIAL // row.greatest + 1:
        return False
    for number, given in enumerate(value):
        if not is_long_pair(given) or given != row.value(number):
            return False
    return True
