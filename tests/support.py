"""What several tests use: refusals, wrong values, plain models, and the examples of the document."""

import unittest
from fractions import Fraction
from math import factorial, gcd, lcm, prod

from wholerises import errors
from wholerises.circle.products import row_of_parts
from wholerises.rise.risings import Rising
from wholerises.row.quotients import Quotient
from wholerises.stair.cells import Forms

LONG = 10 ** 60 - 1
KEPT = {"InvalidNumber": "given", "UnknownName": "wanted", "TooMany": "most", "Refused": "reason",
        "NothingToUndo": "steps", "ParseError": "index"}

MIDDLE = Quotient((2,), (1, 1))
CHEBYSHEV = Quotient((30, 1), (15, 10, 6))
FIVE = Quotient((5,), (1, 1, 1, 1, 1))
BROKEN = Quotient((4, 1), (3, 2))
TURNED = Quotient((1, 1), (2,))
LATE = Quotient((6, 5), (3, 4, 4))
SHORT = Quotient((3,), (1, 1, 2))
GREATEST = Quotient((60, 56, 45, 40, 36, 35, 30, 28), (24, 21, 20, 18, 15, 14, 12, 10))
GREAT = Quotient((60, 45, 36, 28, 28, 21, 18, 5), (56, 40, 35, 30, 24, 24, 20, 12))
ROWS = (MIDDLE, CHEBYSHEV, FIVE, BROKEN, TURNED, LATE, SHORT, Quotient((), (1,)), Quotient((2,), (1,)),
        Quotient((60, 7), (42, 5)), Quotient((6, 6, 1), (4, 3, 3, 2)), Quotient((12,), (6, 4, 3)),
        Quotient((9, 5), (7, 3, 3, 1)), Quotient((1,), ()), Quotient((5, 3), (4, 2, 2)), GREATEST, GREAT)

CATALAN = Forms(((2, 0), (0, 2)), ((1, 0), (0, 1), (1, 1)))
MIXED = Forms(((1, 0), (0, 1)), ((1, 1),))
SKEW = Forms(((2, 0), (0, 1)), ((1, 0), (1, 1)))
WIDE = Forms(((5, 5), (5, 4), (4, 5), (5, 3), (3, 5)), ((4, 4), (5, 2), (2, 5), (4, 3), (3, 4)))
FORMS = (CATALAN, MIXED, SKEW, Forms(((3, 0),), ((1, 0), (2, 0))), Forms(((1, 2),), ((1, 0), (0, 2), (0, 2))),
         Forms((), ((0, 1),)), Forms(((4, 1),), ((3, 2),)), Forms(((3, 3),), ((2, 1), (1, 2))),
         Forms(((1, 0),), ((0, 1),)), Forms(((2, 2), (1, 0)), ((1, 1), (3, 0))), WIDE)

HALF = Rising(((1, 2),), ((1, 1),))
THIRD = Rising(((1, 3),), ((1, 2),))
HALF_WAY = Rising(((1, 5), (4, 5)), ((2, 5), (1, 1)))
PAIRED = Rising(((1, 12), (7, 12)), ((1, 2), (1, 1)))
TWICE = Rising(((1, 2), (1, 2)), ((1, 1), (1, 1)))
WIDEST = Rising(((1, 840), (11, 840), (209, 840), (407, 840), (809, 840), (3, 4)),
                ((1, 1), (1, 2), (1, 3), (1, 5), (2, 7), (5, 8)))
RISINGS = (HALF, THIRD, HALF_WAY, PAIRED, TWICE, WIDEST, Rising(((1, 1),), ((1, 2),)), Rising(((1, 3),), ((1, 1),)),
           Rising(((2, 3), (1, 3)), ((1, 1), (1, 2))), Rising(((1, 2), (1, 3)), ((1, 1), (1, 4))),
           Rising(((1, 4), (1, 2), (3, 4)), ((1, 3), (2, 3), (1, 1))), Rising(((1, 2),) * 6, ((1, 1),) * 6),
           Rising(((1, 3), (1, 3), (5, 6)), ((1, 6), (1, 2), (1, 2))), Rising(((3, 7), (5, 7)), ((1, 2), (1, 7))),
           Rising(((1, 10), (3, 10), (7, 10), (9, 10)), ((1, 5), (2, 5), (3, 5), (4, 5))),
           Rising(((2, 9), (5, 9), (8, 9)), ((1, 4), (3, 4), (1, 1))), Rising(((1, 8), (3, 8)), ((1, 2), (1, 1))))

# Values of all kinds that are refused everywhere: none of them is an integer, a ratio, a row or the like.
NEST = 7
for _ in range(7):
    NEST = (NEST, [NEST])
WRONG = (True, False, None, "", "1", "\t\n" * 1500, [], [1], (), (None,), ((), ()), {}, {1: 1}, {"a": [1]}, NEST,
         [[[[[[[[1]]]]]]]], 10 ** 60, -10 ** 60, 10 ** 100 - 1, 1 - 10 ** 100, errors.RowError("x"))
OBJECTS = (MIDDLE, CATALAN, HALF)
NO_INTEGERS = WRONG + OBJECTS + ((1, 2),)
NO_RATIOS = WRONG + OBJECTS + (
    1, 0, (1, 0), (0, 2), (2, 4), (1, -2), (-2, -4), (1, 2, 3), (1,), [1, 2], (True, 2), (1, True), (0, True),
    (False, 1), ("1", 2), (1, None), (10 ** 60, 1), (1, 10 ** 60), ((1, 2), 3))
NO_ROWS = WRONG + (1, CATALAN, HALF, "quotient 2/1 1", ((2,), (1, 1)))
NO_RISINGS = WRONG + (1, MIDDLE, CATALAN, "rising 1/2 over 1/1", (((1, 2),), ((1, 1),)))
NO_PRIMES = NO_INTEGERS + (-7, -2, 0, 1, 4, 91, 999999, 10 ** 6, 10 ** 6 + 3, LONG)


class Case(unittest.TestCase):
    """A test case that can ask for refusals."""

    def refused(self, wanted, action, *given):
        """The call raises just the wanted error: a class, or an object that keeps what is to be kept."""
        kind = wanted if isinstance(wanted, type) else type(wanted)
        with self.assertRaises(Exception) as caught:
            action(*given)
        self.assertIs(type(caught.exception), kind, shown(given))
        if not isinstance(wanted, type):
            name = KEPT[kind.__name__]
            self.same(getattr(caught.exception, name), getattr(wanted, name))

    def refused_each(self, wanted, action, values, *behind):
        """The call with each of the values ahead of the others raises the error; it keeps the value if it keeps."""
        for value in values:
            self.refused(wanted(value) if wanted.__name__ in KEPT else wanted, action, value, *behind)

    def same(self, one, other):
        """Equal values of equal kinds, with dicts in equal order."""
        self.assertEqual(one, other)
        self.assertEqual(kinds(one), kinds(other))

    def judges(self, judge, right, wrong):
        """The judge says True to the first values and False to the others, and nothing else."""
        for value in right:
            self.assertIs(judge(value), True, shown(value))
        for value in wrong:
            self.assertIs(judge(value), False, shown(value))

    def examples(self, text, names):
        """Runs examples that are written as in the document."""
        lines = [line for line in text.splitlines() if line]
        for at, line in enumerate(lines):
            if line.startswith(">>> "):
                behind = lines[at + 1] if at + 1 < len(lines) else ">>> "
                self.example(line[4:], behind, names)

    def example(self, code, behind, names):
        """One example: a statement without a result, or an expression with its result or error."""
        if behind.startswith(">>> "):
            exec(code, names)
        elif behind.startswith("raises "):
            wanted = eval(behind[7:], {**vars(errors)})
            self.refused(wanted, lambda: eval(code, names))
        else:
            self.same(eval(code, names), eval(behind, {}))


def shown(value):
    """A value as a text; Python refuses to write the longest integers."""
    try:
        return repr(value)
    except ValueError:
        return "a long integer"


def kinds(value):
    """The kinds of a value and of all that it holds, in their order."""
    if isinstance(value, dict):
        return (dict, [(key, kinds(key), kinds(value[key])) for key in value])
    if isinstance(value, (list, tuple)):
        return (type(value), [kinds(item) for item in value])
    return type(value)


def pair(fraction):
    """A fraction as a ratio."""
    return (Fraction(fraction).numerator, Fraction(fraction).denominator)


def fraction(ratio):
    """A ratio as a fraction."""
    return Fraction(ratio[0], ratio[1])


def numbers_of(row, number):
    """u(n) of a row, by the definition."""
    return Fraction(prod([factorial(top * number) for top in row.tops]),
                    prod([factorial(bottom * number) for bottom in row.bottoms]))


def depth_of(row, x):
    """D(x) of a row at a fraction, by the definition."""
    return sum([top * x // 1 for top in row.tops]) - sum([bottom * x // 1 for bottom in row.bottoms])


def exponent_in(prime, value):
    """The exponent of a prime in a fraction other than 0, by the definition."""
    times = 0
    while value.numerator % prime == 0:
        value, times = value / prime, times + 1
    while value.denominator % prime == 0:
        value, times = value * prime, times - 1
    return times


def is_plain_prime(number):
    """Whether an integer is a prime, by the definition."""
    return number > 1 and all(number % divisor for divisor in range(2, int(number ** 0.5) + 1))


def images_of(rising, unit):
    """The pairs (image, 1 or -1) of all places as fractions, ascending, by the definition."""
    found = [(fraction(place) * unit, sign) for place, sign in rising]
    return sorted((image - (image.numerator - 1) // image.denominator, sign) for image, sign in found)


def plain_units(number):
    """The units, by the definition."""
    return [unit for unit in range(1, number + 1) if gcd(unit, number) == 1]


def rising_number(rising, number):
    """u(n) of a rising row, by the definition."""
    value = Fraction(1)
    for place, sign in rising:
        product = prod([fraction(place) + index for index in range(number)], start=Fraction(1))
        value = value * product if sign == 1 else value / product
    return value


def drawn_rows(many, most=12, members=4):
    """Drawn quotient rows, the same ones in each run."""
    rows = []
    at = 1
    while len(rows) < many:
        numbers = []
        for _ in range(2 * members):
            at = at * 6364136223846793005 % 2 ** 61
            numbers.append(at // 2 ** 20)
        tops = tuple(number % most + 1 for number in numbers[:numbers[-1] % (members + 1)])
        bottoms = tuple(number % most + 1 for number in numbers[members:members + numbers[0] % (members + 1)])
        if sorted(tops) != sorted(bottoms):
            left = set(tops) ^ set(bottoms)
            if not left or lcm(*left) <= 2520:
                rows.append(Quotient(tops, bottoms))
    return rows


def cyclotomic_sets(degree):
    """All tuples of numbers whose cyclotomic polynomials have this degree in all."""
    found = {0: {()}}
    numbers = {number: len(plain_units(number)) for number in range(1, 61) if len(plain_units(number)) <= degree}
    for size in range(1, degree + 1):
        found[size] = {tuple(sorted(told + (number,))) for number, step in numbers.items() if step <= size
                       for told in found[size - step]}
    return sorted(found[degree])


def balanced_rows(degree):
    """All balanced rows of a degree, by their parts."""
    found = []
    drawn = [(told, set(told)) for told in cyclotomic_sets(degree)]
    for one, tops in drawn:
        for other, bottoms in drawn:
            if not tops & bottoms:
                row = row_of_parts({number: one.count(number) - other.count(number) for number in tops | bottoms})
                if row is not None:
                    found.append(row)
    return found


def family_sides(name, one, other):
    """The tops and the bottoms of a and b in a family, by the definition [18.2], before members are taken out."""
    if name == "one":
        return (one + other,), (one, other)
    if name == "two":
        return (2 * one, other), (one, 2 * other, one - other)
    return (2 * one, 2 * other), (one, other, one + other)


def family_rows():
    """All rows of the families within [0.9], each once."""
    found = {}
    for one in range(1, 60):
        for other in range(1, one + 1):
            for name in ("one", "three", "two") if one > other else ("one", "three"):
                try:
                    row = Quotient(*family_sides(name, one, other))
                except errors.InvalidRow:
                    continue
                found[(row.tops, row.bottoms)] = row
    return [found[key] for key in sorted(found)]


def exchanged(table):
    """Rows and columns exchanged."""
    return tuple(zip(*table))


def multiplied(one, other):
    """The product of two matrices, by the definition."""
    return tuple(tuple(sum(one[i][k] * other[k][j] for k in range(len(other))) for j in range(len(other[0])))
                 for i in range(len(one)))


def plain_unit(size):
    """The unit matrix."""
    return tuple(tuple(int(i == j) for j in range(size)) for i in range(size))


def plain_determinant(table):
    """The determinant, by the first row."""
    if not table:
        return 1
    return sum((-1) ** j * item * plain_determinant([line[:j] + line[j + 1:] for line in table[1:]])
               for j, item in enumerate(table[0]) if item)
