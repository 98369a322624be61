"""The examples of the document, stage by stage, as they stand there."""

from wholerises.base import numbers, polynomials, ratios, tables
from wholerises.circle import products, walks
from wholerises.desk import desks, promises
from wholerises.equation import equations
from wholerises.family import families
from wholerises.group import groups
from wholerises.kept import companions
from wholerises.kept import tables as kept_tables
from wholerises.mirror import mirrors, series
from wholerises.prime import windows
from wholerises.rest import lucas, operators
from wholerises.rise import risings, units
from wholerises.row import quotients
from wholerises.stair import cells, stairs, wholes
from wholerises.text import formats, shell
from tests.support import BROKEN, CHEBYSHEV, FIVE, MIDDLE, TURNED, Case

NAMES = {"MIDDLE": MIDDLE, "CHEBYSHEV": CHEBYSHEV, "FIVE": FIVE, "BROKEN": BROKEN, "TURNED": TURNED}

VALUES = """
>>> MIDDLE = Quotient((2,), (1, 1))
>>> CHEBYSHEV = Quotient((30, 1), (15, 10, 6))
>>> FIVE = Quotient((5,), (1, 1, 1, 1, 1))
>>> BROKEN = Quotient((4, 1), (3, 2))
>>> TURNED = Quotient((1, 1), (2,))
"""

NUMBERS = """
>>> [is_prime(91), is_prime(10 ** 6 + 3), prime_factors(360), moebius(30), moebius(12), units_of(12), digits_of(45, 7), digits_of(0, 2)]
[False, False, {2: 3, 3: 2, 5: 1}, -1, 0, (1, 5, 7, 11), (3, 6), ()]
>>> [common_divisor((12, -18, 0)), common_multiple((30, 15, 10, 6)), lowest(4, -6), plus((1, 2), (1, 3)), over((1, 2), (-1, 3)), compare((1, 3), (3, 8))]
[6, 30, (-2, 3), (5, 6), (-3, 2), -1]
>>> [floor_of((-1, 2)), ceiling_of((7, 2)), part_of((-1, 3)), part_of((3, 1)), exponent_of(2, (12, 7)), exponent_of(7, (-3, 49))]
[-1, 4, (2, 3), (1, 1), 2, -2]
>>> exponent_of(4, (1, 2))
raises InvalidNumber(4)
"""

TABLES = """
>>> [cyclotomic(1), cyclotomic(6), cyclotomic(12), polynomial_product((1, -1), (1, 1))]
[(-1, 1), (1, -1, 1), (1, 0, -1, 0, 1), (1, 0, -1)]
>>> [polynomial_quotient((-1, 0, 0, 1), (-1, 1)), polynomial_quotient((1, 0, 1), (1, 1)), polynomial_value((1, 0, -2), (1, 2)), cyclotomic_parts((-1, 0, 0, 0, 1)), cyclotomic_parts((1, -1))]
[(1, 1, 1), None, (1, 2), {1: 1, 2: 1, 4: 1}, None]
>>> SOME = ((1, 2, 3), (4, 5, 6), (7, 8, 9))
>>> [determinant(SOME), rank(SOME), kernel(SOME), minors(((2, 1), (1, 2))), table_power(((0, -1), (1, 1)), 6) == unit_table(2)]
[0, 2, ((1, -2, 1),), (2, 3), True]
>>> determinant(((1, 2),))
raises InvalidOperation
"""

QUOTIENTS = """
>>> [str(CHEBYSHEV), CHEBYSHEV.greatest, CHEBYSHEV.common, CHEBYSHEV.excess, CHEBYSHEV.height, len(CHEBYSHEV), list(BROKEN), 15 in CHEBYSHEV]
['quotient 30 1/15 10 6', 30, 30, 0, 1, 5, [(1, 1), (2, -1), (3, -1), (4, 1)], True]
>>> [MIDDLE.value(3), CHEBYSHEV.value(1), [BROKEN.value(n) for n in range(4)], BROKEN.step(2), FIVE.step(1)]
[(20, 1), (77636318760, 1), [(1, 1), (2, 1), (14, 3), (11, 1)], (33, 14), (945, 1)]
>>> [BROKEN.exponent(3, 2), BROKEN.exponent(7, 5), CHEBYSHEV.exponent(7, 10 ** 30), MIDDLE.exponent(2, 10 ** 30), len(list(CHEBYSHEV.each_value()))]
[-1, -1, 18, 37, 21]
>>> [Quotient((2, 4), (3, 2, 1)) == Quotient.binomial(3, 1), (MIDDLE * 3).value(1) == MIDDLE.value(3), str(MIDDLE * 3), (MIDDLE * 3).divided() == MIDDLE, str(MIDDLE + BROKEN), TURNED == MIDDLE.exchanged()]
[True, True, 'quotient 6/3 3', True, 'quotient 4/3 1', True]
>>> [Quotient.of_members({3: -1, 1: -1, 4: 1}).members, str(Quotient((), (1,))), is_beginning(MIDDLE, ((1, 1), (2, 1), (6, 1))), is_beginning(MIDDLE, (1, 2, 6))]
[{1: -1, 3: -1, 4: 1}, 'quotient -/1', True, False]
>>> MIDDLE + TURNED
raises InvalidOperation
>>> CHEBYSHEV.value(21)
raises TooMany(600)
"""

STAIRS = """
>>> [stairs(MIDDLE), stairs(BROKEN), stairs(TURNED), stairs(Quotient((2,), (1,))) == stairs(MIDDLE)]
[(((0, 1), 0), ((1, 2), 1)), (((0, 1), 0), ((1, 4), 1), ((1, 3), 0), ((2, 3), -1), ((3, 4), 0)), (((0, 1), 0), ((1, 2), -1)), True]
>>> [depth(CHEBYSHEV, (1, 2)), depth(CHEBYSHEV, (31, 30)), depth(BROKEN, (11, 3)), len(stairs(CHEBYSHEV)), jump(CHEBYSHEV, 5), jump(FIVE, 1), jump(FIVE, 7)]
[0, 1, -1, 16, -1, -4, 0]
>>> [stair_of(BROKEN, (7, 10)), stairs_at(BROKEN, 0), least_depth(BROKEN), greatest_depth(FIVE), lengths(BROKEN), lengths(CHEBYSHEV)]
[((2, 3), (3, 4), -1), (((0, 1), (1, 4)), ((1, 3), (2, 3)), ((3, 4), (1, 1))), -1, 4, {-1: (1, 12), 0: (5, 6), 1: (1, 12)}, {0: (1, 2), 1: (1, 2)}]
>>> [row_of_stairs(stairs(CHEBYSHEV)) == CHEBYSHEV, row_of_stairs((((0, 1), 0),)), [depth for start, end, depth in each_stair(FIVE)]]
[True, None, [0, 1, 2, 3, 4]]
>>> depth(MIDDLE, (-1, 2))
raises InvalidOperation
"""

WHOLES = """
>>> [is_whole(row) for row in (MIDDLE, CHEBYSHEV, FIVE, BROKEN, TURNED)], fault(BROKEN), fault(TURNED), fault(Quotient((3,), (1, 1, 2))), fault(FIVE)
([True, True, True, False, False], ('stair', (2, 3), (3, 4), -1), ('stair', (1, 2), (1, 1), -1), ('excess', -1), None)
>>> [witness(BROKEN, 17), BROKEN.exponent(17, 12), witness(Quotient((3,), (1, 1, 2)), 11), is_witness(BROKEN, 3, 2), is_witness(BROKEN, 3, 1), is_witness(BROKEN, 3, True)]
[12, -1, 11, True, False, False]
>>> [first_broken(BROKEN, 100), first_broken(Quotient((6, 5), (3, 4, 4)), 6), first_broken(Quotient((6, 5), (3, 4, 4)), 7), first_broken(CHEBYSHEV, 20), broken_primes(BROKEN, 5), broken_primes(BROKEN, 3)]
[2, None, 7, None, (3, 7), ()]
>>> exponents_at(MIDDLE, 10), exponents_at(BROKEN, 5), exponents_at(FIVE, 0)
({2: 2, 11: 1, 13: 1, 17: 1, 19: 1}, {2: 2, 3: -1, 7: -1, 17: 1, 19: 1}, {})
>>> witness(CHEBYSHEV, 997)
raises InvalidOperation
"""

CELLS = """
>>> CATALAN = Forms(((2, 0), (0, 2)), ((1, 0), (0, 1), (1, 1)))
>>> MIXED, SKEW = Forms(((1, 0), (0, 1)), ((1, 1),)), Forms(((2, 0), (0, 1)), ((1, 0), (1, 1)))
>>> [CATALAN.value(2, 3), CATALAN.excesses, CATALAN.is_whole(), str(CATALAN), CATALAN.along(1, 1).bottoms, len(CATALAN.points())]
[(12, 1), (0, 0), True, 'forms 0,2 2,0/0,1 1,0 1,1', (1, 1), 14]
>>> [MIXED.points(), MIXED.depth((1, 2), (1, 2)), MIXED.is_whole(), MIXED.is_fault(((1, 3), (2, 3))), MIXED.is_fault(((1, 3), (1, 3)))]
[(((0, 1), (0, 1)), ((0, 1), (1, 2)), ((1, 2), (0, 1)), ((1, 2), (1, 2))), -1, False, True, False]
>>> [SKEW.fault() is None, SKEW.depth((1, 4), (3, 4)), SKEW.exponent(2, 1, 3), MIXED.is_witness(2, (1, 1)), MIXED.is_witness(12503, MIXED.witness(12503))]
[False, -1, -1, True, True]
>>> CATALAN.value(301, 0)
raises TooMany(600)
"""

PRODUCTS = """
>>> [parts(row) for row in (MIDDLE, CHEBYSHEV, FIVE)]
[{1: -1, 2: 1}, {1: -1, 2: -1, 3: -1, 5: -1, 30: 1}, {1: -4, 5: 1}]
>>> [products(MIDDLE), products(CHEBYSHEV), products(Quotient((3,), (2, 1)))]
[((1, 1), (-1, 1)), ((1, 1, 0, -1, -1, -1, 0, 1, 1), (-1, -2, -2, -1, 0, 1, 2, 2, 1)), ((1, 1, 1), (-1, 0, 1))]
>>> places(Quotient((4,), (2, 2))), [pair for pair in each_place(MIDDLE)], degree_of(CHEBYSHEV), has_place(CHEBYSHEV, (7, 30))
((((1, 4), (3, 4)), ((1, 2), (1, 1))), [((1, 2), 1), ((1, 1), -1)], 8, True)
>>> [row_of_parts({1: -1, 2: 1}) == MIDDLE, row_of_products((1, 1), (-1, 1)) == MIDDLE, row_of_products((1, 1), (1, 0, 2)), half_turned(MIDDLE) == TURNED]
[True, True, None, True]
>>> [depth_by_places(MIDDLE, ratio) for ratio in ((1, 2), (7, 4), (0, 1))], depth_by_places(Quotient((2,), (1,)), (7, 4))
([1, 1, 0], 2)
>>> row_of_parts({1: 0})
raises InvalidOperation
"""

RISINGS = """
>>> HALF = Rising(((1, 2),), ((1, 1),))
>>> MIXED = Rising(((2, 3), (1, 3)), ((1, 1), (1, 2)))
>>> [HALF.value(2), HALF.factor(2), HALF.exponent(2, 5), HALF.exponent(3, 5), rising_product((1, 2), 3), str(MIXED), MIXED.common]
[(3, 8), (5, 6), -8, 2, (15, 8), 'rising 1/3 2/3 over 1/2 1/1', 6]
>>> THIRD = Rising(((1, 3),), ((1, 1),))
>>> [rising_of(MIDDLE) == (HALF, (4, 1)), quotient_of(HALF) == MIDDLE, quotient_of(THIRD), rising_of(FIVE)[1], str(THIRD.step(5)), THIRD.undoing(7), len(THIRD.steps(2)), len(THIRD.steps(7))]
[True, True, None, (3125, 1), 'rising 2/3 over 1/1', 1, 2, 1]
>>> [MIXED.image(5) == MIXED, THIRD.image(2).tops, list(HALF), THIRD.exponent(2, 10 ** 30) >= 0, len(MIXED)]
[True, ((2, 3),), [((1, 2), 1), ((1, 1), -1)], True, 2]
>>> HALF.step(2)
raises InvalidOperation
>>> rising_of(BROKEN)[1]
(64, 27)
"""

UNITS = """
>>> from wholerises.rise.risings import Rising
>>> HALF, THIRD = Rising(((1, 2),), ((1, 1),)), Rising(((1, 3),), ((1, 2),))
>>> [walk(HALF, 1), walk(THIRD, 1), walk(THIRD, 5), [unit for unit, steps in each_walk(THIRD)]]
[(((1, 2), 1), ((1, 1), 0)), (((1, 3), 1), ((1, 2), 0)), (((1, 2), -1), ((2, 3), 0)), [1, 5]]
>>> [is_whole_up_to_powers(HALF), constant(HALF), broken_units(THIRD), rising_fault(THIRD), is_rising_fault(THIRD, (1, (1, 2))), worst_height(THIRD)]
[True, 16, (5,), (5, (1, 2)), False, (-1, 5)]
>>> [rising_witness(THIRD, 11), THIRD.exponent(11, 6), THIRD.exponent(11, 5)]
[6, -1, 0]
>>> rising_witness(THIRD, 7)
raises Refused(("unit", 1))
>>> constant(THIRD)
raises Refused(("fault", (5, (1, 2))))
"""

WALKS = """
>>> from wholerises.rise.risings import Rising
>>> HALF_WAY = Rising(((1, 5), (4, 5)), ((2, 5), (1, 1)))
>>> [alternating_units(HALF_WAY), [difference_of_signs(HALF_WAY, unit) for unit in (1, 2, 3, 4)], does_alternate_at_all(HALF_WAY), least_difference(HALF_WAY), HALF_WAY.image(2).tops]
[(1, 4), [2, 0, 0, 2], False, (2, 0), ((2, 5), (3, 5))]
>>> PAIRED = Rising(((1, 12), (7, 12)), ((1, 2), (1, 1)))
>>> [does_alternate_at_all(PAIRED), [mate.tops for mate in each_mate(PAIRED)], turned(PAIRED, (-1, 12)).tops, turned(PAIRED, (5, 2)) == PAIRED]
[True, [((1, 12), (7, 12)), ((5, 12), (11, 12))], ((1, 2), (1, 1)), True]
>>> MIXED = Rising(((1, 2), (1, 3)), ((1, 1), (1, 4)))
>>> [difference_of_signs(MIXED, 1), difference_of_signs(turned(MIXED, (1, 6)), 1), len(list(each_mate(MIXED))), turned(MIXED, (1, 6)).bottoms]
[0, 0, 4, ((1, 6), (5, 12))]
>>> [pairs_at_all(4), [len(pairs_at_all(number)) for number in (2, 5, 6, 8, 10, 12, 30)], pairs_at_all(6)[0]]
[(((1, 4), (3, 4), (1, 2)),), [0, 0, 10, 6, 20, 30, 72], ((1, 6), (1, 2), (1, 3))]
>>> does_alternate(HALF_WAY, 5)
raises InvalidNumber(5)
"""

COMPANIONS = """
>>> THREE = Quotient((3,), (2, 1))
>>> [companions(THREE), step_table(THREE), kept_line(THREE), is_definite(kept_table(THREE))]
[(((0, -1), (1, -1)), ((0, 1), (1, 0))), ((1, -1), (0, -1)), (2, -1), True]
>>> FOUR = Quotient((4,), (1, 1, 1, 1))
>>> [kept_table(FOUR), signs_of(kept_table(FOUR)), sign_difference(FOUR), is_low_row(FOUR, (1, 0, 1)), is_low_row(FOUR, (1, 0, 0))]
[((3, 1, -5), (1, 3, 1), (-5, 1, 3)), (2, 1, 0), 1, True, False]
>>> [kept_line(FIVE), kept_table(BROKEN), kept_table(TURNED), is_kept(THREE, ((-4, 2), (2, -4))), is_kept(THREE, ((0, 0), (0, 0))), low_row(MIDDLE)]
[(0, 1, 1, -1), ((0, 1), (-1, 0)), ((1,),), True, False, None]
>>> [back_table(((0, -1), (1, -1))), does_keep(((0, 1), (1, 0)), ((2, -1), (-1, 2))), signs_of(kept_table(CHEBYSHEV))]
[((-1, 1), (-1, 0)), True, (8, 0, 0)]
>>> sign_difference(FIVE)
raises InvalidOperation
"""

GROUPS = """
>>> FOUR, SIX, SHORT = Quotient((4,), (3, 1)), Quotient((6,), (3, 3)), Quotient((3,), (2, 1))
>>> [group_size(row) for row in (MIDDLE, SHORT, FOUR, SIX, BROKEN, TURNED)], is_finite_group(FIVE)
([2, 6, 24, 24, None, 2], False)
>>> order_counts(FOUR), order_counts(SIX), len(reflections(FOUR)), reflections(MIDDLE)
({1: 1, 2: 9, 3: 8, 4: 6}, {1: 1, 2: 7, 3: 8, 6: 8}, 6, (((-1,),),))
>>> list(each_element(SHORT))[:3], matrix_of_word(SHORT, "Ab"), word_of(MIDDLE, ((2,),))
([((1, 0), (0, 1)), ((0, -1), (1, -1)), ((-1, 1), (-1, 0))], ((1, -1), (0, -1)), None)
>>> orbit(SHORT, (1, 0)), is_word(SHORT, ((1, 0), (0, 1)), "bb"), is_word(BROKEN, ((0, -1), (1, 0)), "a")
(((-1, -1), (0, 1), (1, 0)), True, True)
>>> order_counts(FIVE)
raises InvalidOperation
"""

EQUATIONS = """
>>> SQUARE, DOUBLE = {(0, 0): 1, (0, 2): -1, (1, 2): 4}, Quotient((4,), (2, 2))
>>> [series(MIDDLE, 4), sheets(MIDDLE), sheets(DOUBLE), sheets(FIVE), sheets(Quotient((6, 1), (3, 2, 2)))]
[((1, 1), (2, 1), (6, 1), (20, 1)), 2, 4, 0, 6]
>>> [is_equation(MIDDLE, SQUARE), is_equation(DOUBLE, SQUARE), defect(DOUBLE, SQUARE, 3), equation_of(TURNED), root_of(SQUARE, 4)]
[True, False, ((0, 1), (-8, 1), (-128, 1)), None, ((1, 1), (2, 1), (6, 1), (20, 1))]
>>> least_equation(MIDDLE), least_equation(Quotient((3,), (2, 1)))
({(0, 0): 1, (0, 2): -1, (1, 2): 4}, {(0, 0): 1, (0, 1): 3, (0, 3): -4, (1, 3): 27})
>>> [len(list(each_equation(MIDDLE))), is_equation(CHEBYSHEV, {(0, 0): 0, (1, 1): 2}), equation_of(FIVE)]
[5, False, None]
>>> root_of({(0, 2): 1, (0, 1): -2, (0, 0): 1}, 3)
raises InvalidOperation
"""

OPERATORS = """
>>> from wholerises.rise.risings import Rising
>>> HALF = Rising(((1, 2),), ((1, 1),))
>>> THIRDS, TWICE = Rising(((1, 3), (2, 3)), ((1, 2), (1, 1))), Rising(((1, 2), (1, 2)), ((1, 1), (1, 1)))
>>> [operator(HALF), applied(HALF, ((1, 1), (1, 2), (3, 8)))]
[(((0, 1), (1, 1)), ((1, 2), (1, 1))), ((0, 1), (0, 1), (0, 1))]
>>> [ends_at(THIRDS, 7), solutions(THIRDS, 7), is_flat(THIRDS, 7), solutions(HALF, 3), ends_at(TWICE, 5), is_flat(TWICE, 5), solutions(TWICE, 5)]
[((0, 4), (2, 4)), ((1, 2, 2), (0, 0, 0, 0, 1)), True, ((1, 2),), ((0, 0), (2, 2)), False, ((1, 4, 1),)]
>>> [p_curve(HALF, 3), p_curve(TWICE, 5)[0], is_solution(TWICE, 5, (1, 4, 1)), is_solution(TWICE, 5, (1, 4))]
[(((0,),),), ((0, 4, 4, 4, 0, 3), (4, 3, 0, 0, 2, 1)), True, False]
>>> is_flat(THIRDS, 5)
raises InvalidOperation
"""

LUCAS = """
>>> [rest(MIDDLE, 3 * 7 ** 30 + 2, 7), by_digits(MIDDLE, 3 * 7 ** 30 + 2, 7), rest(CHEBYSHEV, 10 ** 20, 101), [value for value, place in zip(each_rest(MIDDLE, 5), range(6))]]
[1, 1, 0, [1, 2, 1, 0, 0, 2]]
>>> [goes_by_digits(row) for row in (MIDDLE, FIVE, CHEBYSHEV)], bend(CHEBYSHEV), bend(MIDDLE)
([True, True, False], ((1, 5), (31, 6)), None)
>>> THREE = Quotient((3,), (2, 1))
>>> [digit_fault(THREE, 11), far_fault(THREE, 11), is_digit_fault(THREE, 11, (1, 7)), digit_fault(CHEBYSHEV, 11), digit_fault(MIDDLE, 97, most=3)]
[(1, 6), (1, 6), True, (2, 4), None]
>>> [cube_exponent(MIDDLE, 1, 3), cube_exponent(MIDDLE, 1, 5), cube_exponent(MIDDLE, 5, 5), cube_exponent(FIVE, 2, 5)]
[2, 3, 6, 6]
>>> far_fault(THREE, 7)
raises InvalidOperation
"""

MIRRORS = """
>>> [mirror(MIDDLE, 5), back_mirror(MIDDLE, 4)] == [((1, 1), (2, 1), (5, 1), (14, 1), (42, 1)), ((0, 1), (1, 1), (-2, 1), (3, 1))]
True
>>> [top for top, bottom in mirror(FIVE, 4)], [top for top, bottom in part_mirror(FIVE, 5, 3)], part_mirror(MIDDLE, 3, 3)[2]
([1, 770, 1014275, 1703916750], [1, 274, 336803], (634, 45))
>>> FOUR = Quotient((4,), (2, 2))
>>> [is_mirror_whole(FIVE), is_mirror_whole(FOUR), mirror_place(FOUR), weight_at(FOUR, (1, 2)), mirror_witness(FOUR, 17), mirror(FOUR, 3)[2]]
[True, False, (1, 2), (2, 1), 9, (575, 3)]
>>> [harmonic(4), series_log(((1, 1), (1, 1), (0, 1))), series_back(((0, 1), (1, 1), (-1, 1)))]
[(25, 12), ((0, 1), (1, 1), (-1, 2)), ((0, 1), (1, 1), (1, 1))]
"""

WINDOWS = """
>>> SHORT = Quotient((3,), (2, 1))
>>> windows(MIDDLE), windows(SHORT), is_windowed(FIVE), len(windows(CHEBYSHEV)), windows(CHEBYSHEV)[1]
((((1, 2), (1, 1)),), (((1, 3), (1, 2)), ((2, 3), (1, 1))), False, 8, ((7, 30), (1, 3)))
>>> window_primes(MIDDLE, 10), window_primes(SHORT, 10), prime_product(MIDDLE, 5), exponent_by_windows(MIDDLE, 2, 3)
((11, 13, 17, 19), (7, 11, 13, 23, 29), 7, 2)
>>> [cofactor(MIDDLE, number) for number in (0, 1, 2, 5)], lcm_to(10), primes_to(12), growth(SHORT), growth(FIVE)
([1, 1, 2, 10], 2520, (2, 3, 5, 7, 11), (27, 4), (3125, 1))
>>> prime_intervals(MIDDLE, 10, 1), prime_intervals(SHORT, 10, 0)
((((10, 1), (20, 1)), ((5, 1), (20, 3))), (((20, 1), (30, 1)), ((10, 1), (15, 1))))
>>> windows(BROKEN)
raises InvalidOperation
"""

FAMILIES = """
>>> [len(rows_of_degree(degree)) for degree in range(1, 9)], [len(apart_rows(degree)) for degree in range(1, 9)]
([1, 3, 3, 11, 7, 23, 21, 51], [0, 0, 0, 2, 0, 10, 10, 32])
>>> [str(row) for row in rows_of_degree(2)], [str(row) for row in apart_rows(4)]
(['quotient 3/2 1', 'quotient 4/2 2', 'quotient 6 1/3 2 2'], ['quotient 12 1/6 4 3', 'quotient 12 3 2/6 6 4 1'])
>>> [families_of(Quotient((4,), (2, 2))), families_of(Quotient((4,), (3, 1))), families_of(CHEBYSHEV), is_apart(CHEBYSHEV), is_algebraic(BROKEN)]
[(('one', 2, 2), ('three', 2, 2), ('two', 2, 1)), (('one', 3, 1), ('three', 2, 1)), (), True, False]
>>> [str(family_row("two", 5, 2)), family_degree("two", 5, 2), family_degree("three", 4, 4), family_members("two", 4)]
['quotient 10 2/5 4 3', 5, 4, ((4, 1), (4, 2), (4, 3), (5, 1), (5, 3), (6, 2))]
>>> [len(row.tops) for row in apart_rows(8)].count(4), [str(row) for row in apart_rows(8) if row.divided() != row]
(2, ['quotient 24 2/12 8 6', 'quotient 24 6 4/12 12 8 2'])
>>> family_row("two", 3, 3)
raises InvalidOperation
>>> family_degree("four", 1, 1)
raises UnknownName("four")
"""

PROMISES = """
>>> [does_hold(CHEBYSHEV, ("algebraic",)), does_hold(FIVE, ("digits",)), does_hold(BROKEN, ("depth", -1)), is_promise(("height", 9))]
[True, True, True, False]
>>> [paper_against(TURNED, ("height", 0)), is_paper_against(BROKEN, ("whole",), ("at", (14, 3))), is_paper_against(CHEBYSHEV, ("digits",), ("at", (1, 2)))]
[('height', -1), True, True]
"""

DESKS = """
>>> desk = Desk(MIDDLE)
>>> [desk.promise(("whole",)), desk.would((("exchanged",),)), desk.do((("times", 3), ("top", 1), ("bottom", 1)))]
[True, (('whole',),), 2]
>>> [str(desk.row), desk.do((("divided",), ("plus", BROKEN))), str(desk.row), desk.undo(2), desk.row == MIDDLE]
['quotient 6/3 3', 3, 'quotient 4/3 1', 1, True]
>>> desk.do((("top", 7), ("times", 10)))
raises Refused(("deed", 1, "great"))
"""

SHELL = """
>>> [write_row(CHEBYSHEV), read_row("1,30/15,10,6") == CHEBYSHEV, read_stairs("0/1:0,1/2:1")]
['30,1/15,10,6', True, (((0, 1), 0), ((1, 2), 1))]
>>> shell = Shell(MIDDLE)
>>> [shell.say(text) for text in ("show", "promise whole", "exchanged", "times 3", "depth 1/6", "exponent 7 2", "stairs")]
['2/1,1', 'new', 'refused broken whole', 'version 2', '1', '1', '0/1:0,1/6:1,1/3:0,1/2:1,2/3:0,5/6:1']
>>> list(shell.run(("open", "top 7", "bottom 7", "show", "undo", "end", "ask algebraic", "fault", "times x", "drop digits", "undo 9")))
['open', 'put 1', 'put 2', '6/3,3', 'invalid', 'version 2', 'yes', 'none', 'wrong at 1', 'missing', 'nothing to undo']
"""


class Examples(Case):

    def check(self, text, *modules):
        """All results are those that the document tells."""
        names = dict(NAMES)
        for module in modules:
            names.update(vars(module))
        self.examples(text, names)

    def test_values(self):
        names = dict(vars(quotients))
        self.examples(VALUES, names)
        for name, row in NAMES.items():
            self.assertTrue(names[name] == row)
        self.same([wholes.is_whole(names[name]) for name in ("CHEBYSHEV", "BROKEN", "TURNED")], [True, False, False])
        self.same(names["FIVE"].height, 4)

    def test_numbers_and_ratios(self):
        self.check(NUMBERS, numbers, ratios)

    def test_polynomials_and_tables(self):
        self.check(TABLES, polynomials, tables)

    def test_quotients(self):
        self.check(QUOTIENTS, quotients)

    def test_stairs(self):
        self.check(STAIRS, quotients, stairs)

    def test_wholes(self):
        self.check(WHOLES, quotients, wholes)

    def test_cells(self):
        self.check(CELLS, cells)

    def test_products(self):
        self.check(PRODUCTS, quotients, products)

    def test_risings(self):
        self.check(RISINGS, risings)

    def test_units(self):
        self.check(UNITS, units)

    def test_walks(self):
        self.check(WALKS, walks)

    def test_companions(self):
        self.check(COMPANIONS, quotients, companions, kept_tables)

    def test_groups(self):
        self.check(GROUPS, quotients, groups)

    def test_equations(self):
        self.check(EQUATIONS, quotients, equations)

    def test_operators(self):
        self.check(OPERATORS, operators)

    def test_lucas(self):
        self.check(LUCAS, quotients, lucas)

    def test_mirrors(self):
        self.check(MIRRORS, quotients, series, mirrors)

    def test_windows(self):
        self.check(WINDOWS, quotients, windows)

    def test_families(self):
        self.check(FAMILIES, quotients, families)

    def test_promises(self):
        self.check(PROMISES, promises)

    def test_desks(self):
        self.check(DESKS, desks)

    def test_shell(self):
        self.check(SHELL, formats, shell)
