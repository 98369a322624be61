"""The examples of the document, stage by stage, as they stand there."""

from wholerises.base import numbers, polynomials, ratios, tables
from wholerises.row import quotients
from wholerises.stair import cells, stairs, wholes
from tests.support import BROKEN, CHEBYSHEV, FIVE, MIDDLE, TURNED, Case

NAMES = {"MIDDLE": MIDDLE, "CHEBYSHEV": CHEBYSHEV, "FIVE": FIVE, "BROKEN": BROKEN, "TURNED": TURNED}

VALUES = """
>>> MIDDLE = Quotient((2,), (1, 1))
>>> CHEBYSHEV = Quotient((30, 1), (15, 10, 6))
>>> FIVE = Quotient((5,), (1, 1, 1, 1, 1))
>>> BROKEN = Quotient((4, 1), (3, 2))
>>> TURNED = Quotient((1, 1), (2,))
"""

NUMBERS = """
>>> [is_prime(91), is_prime(10 ** 6 + 3), prime_factors(360), moebius(30), moebius(12), units_of(12), digits_of(45, 7), digits_of(0, 2)]
[False, False, {2: 3, 3: 2, 5: 1}, -1, 0, (1, 5, 7, 11), (3, 6), ()]
>>> [common_divisor((12, -18, 0)), common_multiple((30, 15, 10, 6)), lowest(4, -6), plus((1, 2), (1, 3)), over((1, 2), (-1, 3)), compare((1, 3), (3, 8))]
[6, 30, (-2, 3), (5, 6), (-3, 2), -1]
>>> [floor_of((-1, 2)), ceiling_of((7, 2)), part_of((-1, 3)), part_of((3, 1)), exponent_of(2, (12, 7)), exponent_of(7, (-3, 49))]
[-1, 4, (2, 3), (1, 1), 2, -2]
>>> exponent_of(4, (1, 2))
raises InvalidNumber(4)
"""

TABLES = """
>>> [cyclotomic(1), cyclotomic(6), cyclotomic(12), polynomial_product((1, -1), (1, 1))]
[(-1, 1), (1, -1, 1), (1, 0, -1, 0, 1), (1, 0, -1)]
>>> [polynomial_quotient((-1, 0, 0, 1), (-1, 1)), polynomial_quotient((1, 0, 1), (1, 1)), polynomial_value((1, 0, -2), (1, 2)), cyclotomic_parts((-1, 0, 0, 0, 1)), cyclotomic_parts((1, -1))]
[(1, 1, 1), None, (1, 2), {1: 1, 2: 1, 4: 1}, None]
>>> SOME = ((1, 2, 3), (4, 5, 6), (7, 8, 9))
>>> [determinant(SOME), rank(SOME), kernel(SOME), minors(((2, 1), (1, 2))), table_power(((0, -1), (1, 1)), 6) == unit_table(2)]
[0, 2, ((1, -2, 1),), (2, 3), True]
>>> determinant(((1, 2),))
raises InvalidOperation
"""

QUOTIENTS = """
>>> [str(CHEBYSHEV), CHEBYSHEV.greatest, CHEBYSHEV.common, CHEBYSHEV.excess, CHEBYSHEV.height, len(CHEBYSHEV), list(BROKEN), 15 in CHEBYSHEV]
['quotient 30 1/15 10 6', 30, 30, 0, 1, 5, [(1, 1), (2, -1), (3, -1), (4, 1)], True]
>>> [MIDDLE.value(3), CHEBYSHEV.value(1), [BROKEN.value(n) for n in range(4)], BROKEN.step(2), FIVE.step(1)]
[(20, 1), (77636318760, 1), [(1, 1), (2, 1), (14, 3), (11, 1)], (33, 14), (945, 1)]
>>> [BROKEN.exponent(3, 2), BROKEN.exponent(7, 5), CHEBYSHEV.exponent(7, 10 ** 30), MIDDLE.exponent(2, 10 ** 30), len(list(CHEBYSHEV.each_value()))]
[-1, -1, 18, 37, 21]
>>> [Quotient((2, 4), (3, 2, 1)) == Quotient.binomial(3, 1), (MIDDLE * 3).value(1) == MIDDLE.value(3), str(MIDDLE * 3), (MIDDLE * 3).divided() == MIDDLE, str(MIDDLE + BROKEN), TURNED == MIDDLE.exchanged()]
[True, True, 'quotient 6/3 3', True, 'quotient 4/3 1', True]
>>> [Quotient.of_members({3: -1, 1: -1, 4: 1}).members, str(Quotient((), (1,))), is_beginning(MIDDLE, ((1, 1), (2, 1), (6, 1))), is_beginning(MIDDLE, (1, 2, 6))]
[{1: -1, 3: -1, 4: 1}, 'quotient -/1', True, False]
>>> MIDDLE + TURNED
raises InvalidOperation
>>> CHEBYSHEV.value(21)
raises TooMany(600)
"""

STAIRS = """
>>> [stairs(MIDDLE), stairs(BROKEN), stairs(TURNED), stairs(Quotient((2,), (1,))) == stairs(MIDDLE)]
[(((0, 1), 0), ((1, 2), 1)), (((0, 1), 0), ((1, 4), 1), ((1, 3), 0), ((2, 3), -1), ((3, 4), 0)), (((0, 1), 0), ((1, 2), -1)), True]
>>> [depth(CHEBYSHEV, (1, 2)), depth(CHEBYSHEV, (31, 30)), depth(BROKEN, (11, 3)), len(stairs(CHEBYSHEV)), jump(CHEBYSHEV, 5), jump(FIVE, 1), jump(FIVE, 7)]
[0, 1, -1, 16, -1, -4, 0]
>>> [stair_of(BROKEN, (7, 10)), stairs_at(BROKEN, 0), least_depth(BROKEN), greatest_depth(FIVE), lengths(BROKEN), lengths(CHEBYSHEV)]
[((2, 3), (3, 4), -1), (((0, 1), (1, 4)), ((1, 3), (2, 3)), ((3, 4), (1, 1))), -1, 4, {-1: (1, 12), 0: (5, 6), 1: (1, 12)}, {0: (1, 2), 1: (1, 2)}]
>>> [row_of_stairs(stairs(CHEBYSHEV)) == CHEBYSHEV, row_of_stairs((((0, 1), 0),)), [depth for start, end, depth in each_stair(FIVE)]]
[True, None, [0, 1, 2, 3, 4]]
>>> depth(MIDDLE, (-1, 2))
raises InvalidOperation
"""

WHOLES = """
>>> [is_whole(row) for row in (MIDDLE, CHEBYSHEV, FIVE, BROKEN, TURNED)], fault(BROKEN), fault(TURNED), fault(Quotient((3,), (1, 1, 2))), fault(FIVE)
([True, True, True, False, False], ('stair', (2, 3), (3, 4), -1), ('stair', (1, 2), (1, 1), -1), ('excess', -1), None)
>>> [witness(BROKEN, 17), BROKEN.exponent(17, 12), witness(Quotient((3,), (1, 1, 2)), 11), is_witness(BROKEN, 3, 2), is_witness(BROKEN, 3, 1), is_witness(BROKEN, 3, True)]
[12, -1, 11, True, False, False]
>>> [first_broken(BROKEN, 100), first_broken(Quotient((6, 5), (3, 4, 4)), 6), first_broken(Quotient((6, 5), (3, 4, 4)), 7), first_broken(CHEBYSHEV, 20), broken_primes(BROKEN, 5), broken_primes(BROKEN, 3)]
[2, None, 7, None, (3, 7), ()]
>>> exponents_at(MIDDLE, 10), exponents_at(BROKEN, 5), exponents_at(FIVE, 0)
({2: 2, 11: 1, 13: 1, 17: 1, 19: 1}, {2: 2, 3: -1, 7: -1, 17: 1, 19: 1}, {})
>>> witness(CHEBYSHEV, 997)
raises InvalidOperation
"""

CELLS = """
>>> CATALAN = Forms(((2, 0), (0, 2)), ((1, 0), (0, 1), (1, 1)))
>>> MIXED, SKEW = Forms(((1, 0), (0, 1)), ((1, 1),)), Forms(((2, 0), (0, 1)), ((1, 0), (1, 1)))
>>> [CATALAN.value(2, 3), CATALAN.excesses, CATALAN.is_whole(), str(CATALAN), CATALAN.along(1, 1).bottoms, len(CATALAN.points())]
[(12, 1), (0, 0), True, 'forms 0,2 2,0/0,1 1,0 1,1', (1, 1), 14]
>>> [MIXED.points(), MIXED.depth((1, 2), (1, 2)), MIXED.is_whole(), MIXED.is_fault(((1, 3), (2, 3))), MIXED.is_fault(((1, 3), (1, 3)))]
[(((0, 1), (0, 1)), ((0, 1), (1, 2)), ((1, 2), (0, 1)), ((1, 2), (1, 2))), -1, False, True, False]
>>> [SKEW.fault() is None, SKEW.depth((1, 4), (3, 4)), SKEW.exponent(2, 1, 3), MIXED.is_witness(2, (1, 1)), MIXED.is_witness(12503, MIXED.witness(12503))]
[False, -1, -1, True, True]
>>> CATALAN.value(301, 0)
raises TooMany(600)
"""

class Examples(Case):

    def check(self, text, *modules):
        """All results are those that the document tells."""
        names = dict(NAMES)
        for module in modules:
            names.update(vars(module))
        self.examples(text, names)

    def test_values(self):
        names = dict(vars(quotients))
        self.examples(VALUES, names)
        for name, row in NAMES.items():
            self.assertTrue(names[name] == row)
        self.same([wholes.is_whole(names[name]) for name in ("CHEBYSHEV", "BROKEN", "TURNED")], [True, False, False])
        self.same(names["FIVE"].height, 4)

    def test_numbers_and_ratios(self):
        self.check(NUMBERS, numbers, ratios)

    def test_polynomials_and_tables(self):
        self.check(TABLES, polynomials, tables)

    def test_quotients(self):
        self.check(QUOTIENTS, quotients)

    def test_stairs(self):
        self.check(STAIRS, quotients, stairs)

    def test_wholes(self):
        self.check(WHOLES, quotients, wholes)

    def test_cells(self):
        self.check(CELLS, cells)
