"""The names, parameters and places that the document lists, and the conventions [0.2] and [0.3]."""

import importlib
import inspect

from wholerises.desk.desks import Batch, Desk
from wholerises.errors import InvalidRising, InvalidRow
from wholerises.rise.risings import Rising
from wholerises.row.quotients import Quotient
from wholerises.stair.cells import Forms
from wholerises.text.shell import Shell
from tests.support import CATALAN, HALF, MIDDLE, NO_RISINGS, NO_ROWS, WRONG, Case

FUNCTIONS = {
    "wholerises.base.numbers": {
        "is_integer": "value", "is_prime": "value", "prime_factors": "number", "moebius": "number",
        "units_of": "number", "common_divisor": "numbers", "common_multiple": "numbers", "digits_of": "number base"},
    "wholerises.base.ratios": {
        "is_ratio": "value", "lowest": "top bottom", "compare": "one other", "plus": "one other",
        "minus": "one other", "times": "one other", "over": "one other", "floor_of": "ratio", "ceiling_of": "ratio",
        "part_of": "ratio", "exponent_of": "prime ratio"},
    "wholerises.base.polynomials": {
        "is_polynomial": "value", "polynomial_sum": "one other", "polynomial_product": "one other",
        "polynomial_quotient": "one other", "polynomial_value": "polynomial ratio", "cyclotomic": "number",
        "cyclotomic_parts": "polynomial"},
    "wholerises.base.tables": {
        "is_table": "value", "unit_table": "size", "table_product": "one other", "table_power": "table exponent",
        "turned_over": "table", "rank": "table", "kernel": "table", "determinant": "table", "minors": "table",
        "is_symmetric": "table", "is_alternating": "table"},
    "wholerises.row.quotients": {"is_beginning": "row value"},
    "wholerises.stair.stairs": {
        "depth": "row ratio", "jump": "row number", "stairs": "row", "each_stair": "row", "stair_of": "row ratio",
        "stairs_at": "row number", "least_depth": "row", "greatest_depth": "row", "lengths": "row",
        "row_of_stairs": "value"},
    "wholerises.stair.wholes": {
        "is_whole": "row", "fault": "row", "witness": "row prime", "is_witness": "row prime value",
        "first_broken": "row number", "broken_primes": "row number", "exponents_at": "row number",
        "each_witness": "row"},
    "wholerises.circle.products": {
        "parts": "row", "row_of_parts": "parts", "degree_of": "row", "products": "row", "row_of_products": "one other",
        "places": "row", "each_place": "row", "has_place": "row value", "depth_by_places": "row ratio",
        "half_turned": "row"},
    "wholerises.rise.risings": {
        "rising_product": "ratio number", "rising_of": "row", "quotient_of": "rising"},
    "wholerises.rise.units": {
        "walk": "rising unit", "each_walk": "rising", "broken_units": "rising", "is_whole_up_to_powers": "rising",
        "rising_fault": "rising", "is_rising_fault": "rising value", "rising_witness": "rising prime",
        "constant": "rising", "worst_height": "rising"},
    "wholerises.circle.walks": {
        "each_mate": "rising", "turned": "rising ratio", "does_alternate": "rising unit",
        "does_alternate_at_all": "rising", "alternating_units": "rising", "difference_of_signs": "rising unit",
        "least_difference": "rising", "pairs_at_all": "number"},
    "wholerises.kept.companions": {
        "companion": "polynomial", "companions": "row", "step_table": "row", "kept_line": "row", "kept_table": "row",
        "is_kept": "row value", "sign_difference": "row"},
    "wholerises.kept.tables": {
        "back_table": "table", "does_keep": "table other", "signs_of": "table", "is_definite": "table",
        "low_row": "row", "is_low_row": "row value"},
    "wholerises.group.groups": {
        "is_finite_group": "row", "group_size": "row", "each_element": "row", "matrix_of_word": "row word",
        "word_of": "row matrix", "is_word": "row matrix value", "order_counts": "row", "reflections": "row",
        "orbit": "row vector"},
    "wholerises.equation.equations": {
        "series": "row many", "sheets": "row", "equation_of": "row", "least_equation": "row",
        "is_equation": "row value", "defect": "row equation many", "root_of": "equation many", "each_equation": "row"},
    "wholerises.rest.operators": {
        "operator": "rising", "applied": "rising coefficients", "ends_at": "rising prime", "is_flat": "rising prime",
        "solutions": "rising prime", "is_solution": "rising prime value", "p_curve": "rising prime"},
    "wholerises.rest.lucas": {
        "rest": "row number prime", "by_digits": "row number prime", "each_rest": "row prime", "goes_by_digits": "row",
        "digit_fault": "row prime most", "is_digit_fault": "row prime value", "bend": "row", "far_fault": "row prime",
        "cube_exponent": "row number prime"},
    "wholerises.mirror.series": {
        "is_series": "value", "series_product": "one other", "series_quotient": "one other", "series_exp": "series",
        "series_log": "series", "series_back": "series", "harmonic": "number"},
    "wholerises.mirror.mirrors": {
        "first_series": "row many", "second_series": "row many", "mirror": "row many", "back_mirror": "row many",
        "part_mirror": "row number many", "weight_at": "row ratio", "is_mirror_whole": "row", "mirror_place": "row",
        "mirror_witness": "row prime", "mirror_fault": "row most"},
    "wholerises.prime.windows": {
        "lcm_to": "number", "primes_to": "number", "is_windowed": "row", "windows": "row",
        "exponent_by_windows": "row prime number", "window_primes": "row number", "prime_product": "row number",
        "is_window_prime": "row number value", "prime_intervals": "row number most", "cofactor": "row number",
        "growth": "row"},
    "wholerises.family.families": {
        "is_algebraic": "row", "is_apart": "row", "families_of": "row", "family_row": "name one other",
        "family_degree": "name one other", "family_members": "name degree", "rows_of_degree": "degree",
        "apart_rows": "degree", "each_algebraic": "most"},
    "wholerises.desk.promises": {
        "is_promise": "value", "does_hold": "row promise", "paper_against": "row promise",
        "is_paper_against": "row promise value"},
    "wholerises.text.formats": {
        "write_row": "row", "write_rising": "rising", "write_stairs": "stairs", "read_row": "text",
        "read_rising": "text", "read_stairs": "text"}}
KEYWORDS = {"digit_fault": "most"}
MADE_OF = {Quotient: "tops bottoms", Forms: "tops bottoms", Rising: "tops bottoms", Desk: "row", Batch: "desk",
           Shell: "row"}
METHODS = {
    Quotient: {
        "binomial": "one other", "of_members": "members", "value": "self number", "exponent": "self prime number",
        "step": "self number", "each_value": "self", "exchanged": "self", "divided": "self"},
    Forms: {
        "value": "self one other", "exponent": "self prime one other", "depth": "self x y", "points": "self",
        "is_whole": "self", "fault": "self", "is_fault": "self value", "witness": "self prime",
        "is_witness": "self prime value", "along": "self one other", "swapped": "self"},
    Rising: {
        "value": "self number", "factor": "self number", "exponent": "self prime number", "image": "self unit",
        "undoing": "self prime", "step": "self prime", "steps": "self prime"},
    Desk: {
        "do": "self deeds", "would": "self deeds", "promise": "self promise", "drop": "self promise",
        "undo": "self count", "at": "self version", "batch": "self"},
    Batch: {"put": "self deed", "end": "self", "drop": "self"},
    Shell: {"say": "self text", "run": "self texts"}}
SIGNS = {Quotient: "__init__ __mul__ __add__ __eq__ __len__ __iter__ __contains__ __str__",
         Forms: "__init__ __eq__ __len__ __contains__ __str__",
         Rising: "__init__ __eq__ __len__ __iter__ __str__",
         Desk: "__init__ __eq__ __len__ __iter__ __contains__ __str__", Batch: "__enter__ __exit__",
         Shell: "__init__ __len__ __str__"}
PROPERTIES = {Quotient: "tops bottoms members greatest common excess height is_balanced",
              Forms: "tops bottoms excesses", Rising: "tops bottoms common", Desk: "row promises version",
              Batch: "row is_open", Shell: "desk"}
GENERATORS = ("each_stair", "each_witness", "each_place", "each_walk", "each_mate", "each_element", "each_equation",
              "each_rest", "each_algebraic", "each_value", "run")


class Interface(Case):

    def test_functions(self):
        for name, told in FUNCTIONS.items():
            module = importlib.import_module(name)
            for function, parameters in told.items():
                found = getattr(module, function)
                self.assertEqual((found.__module__, inspect.isfunction(found)), (name, True))
                told = inspect.signature(found).parameters
                self.assertEqual(" ".join(told), parameters, function)
                self.assertEqual([name for name in told if told[name].kind == inspect.Parameter.KEYWORD_ONLY],
                                 KEYWORDS.get(function, "").split())
                self.assertEqual(inspect.isgeneratorfunction(found), function in GENERATORS, function)

    def test_classes(self):
        for kind, told in METHODS.items():
            self.assertEqual(" ".join(inspect.signature(kind).parameters), MADE_OF[kind])
            for method, parameters in told.items():
                found = kind.__dict__[method]
                self.assertEqual(" ".join(inspect.signature(getattr(kind, method)).parameters), parameters, method)
                self.assertEqual(isinstance(found, classmethod), not parameters.startswith("self"))
                self.assertEqual(inspect.isgeneratorfunction(found), method in GENERATORS)
            for method in SIGNS[kind].split():
                self.assertIn(method, kind.__dict__)
            for name in PROPERTIES[kind].split():
                self.assertIsInstance(kind.__dict__[name], property)

    def test_each_function_with_a_row_refuses_what_is_none(self):
        self.refuse_all("row", InvalidRow, NO_ROWS)
        self.refuse_all("rising", InvalidRising, NO_RISINGS)

    def refuse_all(self, first, wanted, values):
        """Each function with such a first parameter refuses the values, whatever stands behind."""
        behind = {"ratio": (1, 2), "number": 1, "prime": 17, "value": None, "unit": 1, "many": 1, "word": "a",
                  "matrix": ((1,),), "vector": (1,), "equation": {(0, 0): 1}, "coefficients": ((1, 2),), "most": 1,
                  "promise": ("whole",)}
        for name, told in FUNCTIONS.items():
            for function, parameters in told.items():
                if parameters.split()[0] == first:
                    action = getattr(importlib.import_module(name), function)
                    rest = [behind[parameter] for parameter in parameters.split()[1:]
                            if parameter != KEYWORDS.get(function)]
                    for value in values:
                        if function in GENERATORS:
                            self.refused(wanted, next, action(value, *rest))
                            self.refused(wanted, next, action(value, *[None for _ in rest]))
                        else:
                            self.refused(wanted, action, value, *rest)
                            self.refused(wanted, action, value, *[None for _ in rest])

    def test_each_class_is_refused_by_new(self):
        for kind in (Desk, Shell):
            self.refused_each(InvalidRow, kind, NO_ROWS)

    def test_what_can_be_walked(self):
        desk = Desk(MIDDLE)
        for made in (CATALAN, desk.batch(), Shell(MIDDLE)):
            self.refused(TypeError, iter, made)
        self.same([list(desk), list(HALF)[:1], list(MIDDLE)[:1]], [[], [((1, 2), 1)], [(1, -2)]])

    def test_equality_accepts_every_value(self):
        desk = Desk(MIDDLE)
        made = (MIDDLE, CATALAN, HALF, desk, desk.batch(), Shell(MIDDLE))
        for one in made:
            for value in WRONG + made + (1, (1, 2)):
                self.assertIs(one == value, one is value)
                self.assertIs(one != value, one is not value)
                self.assertIs(value == one, one is value)
                for holder in (MIDDLE, CATALAN, desk):
                    self.assertIs(value in holder, value == 1 and value is not True and holder is MIDDLE)

    def test_attributes_are_not_assigned(self):
        desk = Desk(MIDDLE)
        for kind, made in ((Quotient, MIDDLE), (Forms, CATALAN), (Rising, HALF), (Desk, desk), (Batch, desk.batch()),
                           (Shell, Shell(MIDDLE))):
            for name in PROPERTIES[kind].split():
                self.refused(AttributeError, setattr, made, name, ())
