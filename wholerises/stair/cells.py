"""Quotients of factorials of forms i m + j n in two letters, and the cells on which their depth is constant."""

from wholerises.base.numbers import MAX_INTEGER, check_number, check_prime, divisor_of_all, factorial_exponent
from wholerises.base.numbers import is_between
from wholerises.base.ratios import ceiling, check_ratio, factorial_ratio, is_long_ratio, reduced
from wholerises.errors import InvalidForms, InvalidOperation, TooMany
from wholerises.row.quotients import MAX_INDEX, MAX_MEMBER, MOST_FACTORIAL, counted, row_of_members, sides_of

MAX_FACTOR = 5
MAX_FORMS = 5
LEAST_PRIME = 12500
# Twice the least common multiple of the integers up to 25. Two told lines meet at fractions whose bottoms are at
# most 25, so that all told points have integers here: they stand for their places, multiplied by this.
GRID = 53542288800


def is_form(value):
    """Whether the value is a form."""
    if not isinstance(value, tuple) or len(value) != 2:
        return False
    return is_between(value[0], 0, MAX_FACTOR) and is_between(value[1], 0, MAX_FACTOR) and value != (0, 0)


def are_forms(value):
    """Whether the value is a tuple of at most five forms."""
    if not isinstance(value, tuple) or len(value) > MAX_FORMS:
        return False
    return all([is_form(item) for item in value])


def values_of(forms, one, other):
    """The list of i * one + j * other for all forms (i, j)."""
    return [i * one + j * other for i, j in forms]


def told_lines(forms):
    """The told lines of [6.3], each once: (i, j, k) without a common divisor for i x + j y = k."""
    found = {(1, 0, 0): True, (1, 0, 1): True, (0, 1, 0): True, (0, 1, 1): True}
    for i, j in forms:
        for k in range(1, i + j + 1):
            divisor = divisor_of_all((i, j, k))
            found[(i // divisor, j // divisor, k // divisor)] = True
    return list(found)


def crossings_on(line, lines):
    """The ascending list of the points of the square, on the grid, at which a line meets one of the lines."""
    i, j, k = line
    found = {}
    for one, other, count in lines:
        size = i * other - j * one
        if size != 0:
            x = (k * other - j * count) * GRID // size
            y = (i * count - k * one) * GRID // size
            if 0 <= x <= GRID and 0 <= y <= GRID:
                found[(x, y)] = True
    return sorted(found)


def told_points(forms):
    """The ascending list of the told points of [6.3] on the grid."""
    found = {}
    lines = told_lines(forms)
    for line in lines:
        crossings = crossings_on(line, lines)
        for point in crossings:
            found[point] = True
        for before, behind in zip(crossings, crossings[1:]):
            found[((before[0] + behind[0]) // 2, (before[1] + behind[1]) // 2)] = True
    return [(x, y) for x, y in sorted(found) if x < GRID and y < GRID]


def depth_on(tops, bottoms, x, y, unit):
    """The depth at the fractions x / unit and y / unit."""
    return sum([part // unit for part in values_of(tops, x, y)]) - sum(
        [part // unit for part in values_of(bottoms, x, y)])


def forms_text(forms):
    """The forms of one side as a text."""
    return " ".join([f"{i},{j}" for i, j in forms]) if forms else "-"


class Forms:
    """Forms in two letters. They never change."""

    def __init__(self, tops, bottoms):
        if not are_forms(tops) or not are_forms(bottoms):
            raise InvalidForms("a side is no tuple of at most five forms")
        counts = counted(tops, bottoms)
        if not counts:
            raise InvalidForms("no form is left")
        self._tops, self._bottoms = sides_of(counts)
        self._sides = self._tops + self._bottoms

    @property
    def tops(self):
        """The tops that are left, ascending, with repeats."""
        return self._tops

    @property
    def bottoms(self):
        """The bottoms that are left, ascending, with repeats."""
        return self._bottoms

    @property
    def excesses(self):
        """The pair of the sums of all i and of all j of the tops, each less that of the bottoms."""
        return (depth_on(self._tops, self._bottoms, 1, 0, 1), depth_on(self._tops, self._bottoms, 0, 1, 1))

    def value(self, one, other):
        """The number u(one, other), a ratio."""
        check_number(one, 0, MAX_INTEGER)
        check_number(other, 0, MAX_INTEGER)
        if max(values_of(self._sides, one, other)) > MOST_FACTORIAL:
            raise TooMany(MOST_FACTORIAL)
        return factorial_ratio(values_of(self._tops, one, other), values_of(self._bottoms, one, other))

    def exponent(self, prime, one, other):
        """The exponent of the prime in u(one, other)."""
        check_prime(prime)
        check_number(one, 0, MAX_INDEX)
        check_number(other, 0, MAX_INDEX)
        tops = [factorial_exponent(prime, number) for number in values_of(self._tops, one, other)]
        bottoms = [factorial_exponent(prime, number) for number in values_of(self._bottoms, one, other)]
        return sum(tops) - sum(bottoms)

    def depth(self, x, y):
        """The depth at two fractions of at least 0."""
        check_ratio(x)
        check_ratio(y)
        if x[0] < 0 or y[0] < 0:
            raise InvalidOperation("there is no depth below 0")
        return self._depth_at(x, y)

    def _depth_at(self, x, y):
        """The depth at two ratios of integers of any size."""
        return depth_on(self._tops, self._bottoms, x[0] * y[1], y[0] * x[1], x[1] * y[1])

    def points(self):
        """The ascending tuple of the told points, pairs of ratios."""
        return tuple([(reduced(x, GRID), reduced(y, GRID)) for x, y in told_points(self._sides)])

    def is_whole(self):
        """Whether all numbers are integers."""
        return self.fault() is None

    def fault(self):
        """A point at which the depth is below 0, a told point, (1, 0) or (0, 1), or None if there is none."""
        for x, y in told_points(self._sides):
            if depth_on(self._tops, self._bottoms, x, y, GRID) < 0:
                return (reduced(x, GRID), reduced(y, GRID))
        first, second = self.excesses
        if first < 0:
            return ((1, 1), (0, 1))
        return ((0, 1), (1, 1)) if second < 0 else None

    def is_fault(self, value):
        """Whether the value is a pair of ratios from 0 to 1 at which the depth is below 0."""
        if not isinstance(value, tuple) or len(value) != 2:
            return False
        if not all([is_long_ratio(item) and 0 <= item[0] <= item[1] for item in value]):
            return False
        return self._depth_at(value[0], value[1]) < 0

    def witness(self, prime):
        """A pair (m, n) such that the prime has an exponent below 0 in u(m, n)."""
        check_prime(prime)
        if prime <= LEAST_PRIME:
            raise InvalidOperation("the prime is not above 12500")
        told = self.fault()
        if told is None:
            raise InvalidOperation("the forms are whole")
        (top, bottom), (second_top, second_bottom) = told
        return (ceiling(top * prime, bottom), ceiling(second_top * prime, second_bottom))

    def is_witness(self, prime, value):
        """Whether the value is a pair (m, n) such that the prime has an exponent below 0 in u(m, n)."""
        check_prime(prime)
        if not isinstance(value, tuple) or len(value) != 2:
            return False
        if not all([is_between(item, 0, MAX_INDEX) for item in value]):
            return False
        return self.exponent(prime, value[0], value[1]) < 0

    def along(self, one, other):
        """The quotient row whose number u(n) is that of the forms at one * n and other * n."""
        check_number(one, 0, MAX_MEMBER)
        check_number(other, 0, MAX_MEMBER)
        tops = [member for member in values_of(self._tops, one, other) if member > 0]
        bottoms = [member for member in values_of(self._bottoms, one, other) if member > 0]
        return row_of_members(counted(tops, bottoms))

    def swapped(self):
        """The forms with both letters exchanged."""
        return Forms(tuple([(j, i) for i, j in self._tops]), tuple([(j, i) for i, j in self._bottoms]))

    def __eq__(self, other):
        return isinstance(other, Forms) and self._tops == other._tops and self._bottoms == other._bottoms

    def __len__(self):
        return len(self._sides)

    def __contains__(self, x):
        return is_form(x) and x in self._sides

    def __str__(self):
        return f"forms {forms_text(self._tops)}/{forms_text(self._bottoms)}"
