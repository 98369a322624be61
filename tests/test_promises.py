"""[19.1], [19.2], [0.14] and wholerises.desk.promises."""

from fractions import Fraction

from wholerises.desk.promises import does_hold, is_paper_against, is_promise, paper_against
from wholerises.errors import InvalidPromise, InvalidRow
from wholerises.family.families import rows_of_degree
from wholerises.mirror.mirrors import is_mirror_whole
from wholerises.rest.lucas import goes_by_digits
from wholerises.row.quotients import Quotient
from tests.support import (
    BROKEN, CHEBYSHEV, FIVE, GREAT, LONG, MIDDLE, NO_ROWS, OBJECTS, ROWS, TURNED, WRONG, Case, depth_of, drawn_rows,
    fraction, pair)

PROMISES = (("whole",), ("balanced",), ("algebraic",), ("digits",)) + tuple(
    ("height", number) for number in range(-8, 9)) + tuple(
    ("depth", number) for number in (-LONG, -100, -3, -2, -1, 0, 1, 2, LONG))
NO_PROMISES = WRONG + OBJECTS + (
    1, "whole", ("Whole",), ("whole", 1), ("whole", None), ["whole"], ("whole ",), ("height",), ("height", 9),
    ("height", -9), ("height", True), ("height", False), ("height", None), ("height", "1"), ("height", (1,)),
    ("height", 1, 1), ("height", 10 ** 60), ("depth",), ("depth", True), ("depth", 10 ** 60), ("depth", -10 ** 60),
    ("depth", (1, 2)), ("depth", 1, 2), ("excess", 0), (("whole",),), (MIDDLE,), (MIDDLE, 1), ({}, 1), ([], 1), (1, 1),
    (True, 1), ("digits", 0), ("balanced", ("balanced",)), ("at", (1, 2)))
SOME = ROWS + tuple(drawn_rows(120)) + rows_of_degree(4) + (
    Quotient((2, 2), (1,) * 4), Quotient((6, 6, 1), (4, 3, 3, 2)), Quotient((3, 1), (2,)), Quotient((4, 1), (5,)),
    Quotient((), (60,) * 8), Quotient((60,) * 8, ()))


def places_of(row):
    """All fractions from 0 on and below 1 at which the depth can change, ascending."""
    return sorted({Fraction(top, bottom) for bottom in range(1, row.greatest + 1) for top in range(bottom)})


def plain_facts(row):
    """What is asked of a row: whether it is balanced, its height, its least depth below 1, its excess, whether its
    depth is at least 1 from 1 / M on. The depth changes only at k / m for members m."""
    depths = [(top * row.greatest >= bottom, sum(a * top // bottom for a in row.tops) - sum(
        b * top // bottom for b in row.bottoms)) for bottom in row.members for top in range(bottom)]
    return (sum(row.tops) == sum(row.bottoms), len(row.bottoms) - len(row.tops), min(depth for is_late, depth in depths),
            sum(row.tops) - sum(row.bottoms), all(depth >= 1 for is_late, depth in depths if is_late))


def plain_hold(facts, promise):
    """Whether a promise holds, by the definition."""
    balanced, height, least, excess, late = facts
    whole = least >= 0 and excess >= 0
    return {"whole": whole, "balanced": balanced, "height": promise[-1] == height,
            "depth": excess >= 0 and promise[0] == "depth" and least >= promise[1],
            "algebraic": balanced and whole and height == 1, "digits": balanced and whole and late}[promise[0]]


def plain_paper(row, facts, promise, value):
    """Whether a tuple of a word and what is told behind it is a paper against a promise, by the definition."""
    balanced, height, least, excess, late = facts
    word, told = value
    if plain_hold(facts, promise):
        return False
    if promise[0] == "balanced":
        return value == ("excess", excess)
    if promise[0] == "height":
        return value == ("height", height)
    if promise[0] in ("whole", "depth"):
        return word == "at" and fraction(told) >= 0 and depth_of(row, fraction(told)) < (
            promise[1] if promise[0] == "depth" else 0)
    parts = [("balanced",), ("whole",)] + ([("height", 1)] if promise[0] == "algebraic" else [])
    if not all(plain_hold(facts, part) for part in parts):
        return any(plain_paper(row, facts, part, value) for part in parts)
    return word == "at" and Fraction(1, row.greatest) <= fraction(told) < 1 and depth_of(row, fraction(told)) < 1


class Promises(Case):

    def test_promises(self):
        self.judges(is_promise, PROMISES, NO_PROMISES)

    def test_which_hold(self):
        for row in SOME:
            facts = plain_facts(row)
            for promise in PROMISES:
                self.assertIs(does_hold(row, promise), plain_hold(facts, promise), (str(row), promise))

    def test_digits(self):
        for row in SOME:
            if does_hold(row, ("whole",)) and does_hold(row, ("balanced",)):
                self.assertIs(does_hold(row, ("digits",)), goes_by_digits(row))
                self.assertIs(does_hold(row, ("digits",)), is_mirror_whole(row))
        self.assertIs(does_hold(FIVE, ("digits",)), True)
        self.assertIs(does_hold(CHEBYSHEV, ("digits",)), False)

    def test_they_refuse(self):
        for action in (does_hold, paper_against, lambda row, promise: is_paper_against(row, promise, None)):
            self.refused_each(InvalidRow, action, NO_ROWS, ("whole",))
            self.refused_each(InvalidRow, action, NO_ROWS, None)
            self.refused_each(InvalidPromise, lambda promise: action(MIDDLE, promise), NO_PROMISES)


class Papers(Case):

    def test_papers(self):
        for row in SOME:
            facts = plain_facts(row)
            for promise in PROMISES:
                paper = paper_against(row, promise)
                if plain_hold(facts, promise):
                    self.assertIsNone(paper)
                else:
                    self.assertTrue(plain_paper(row, facts, promise, paper), (str(row), promise, paper))
                    self.assertIs(is_paper_against(row, promise, paper), True)
                    told = paper[1] if isinstance(paper[1], tuple) else (paper[1],)
                    self.assertLess(max(abs(item) for item in told), 10 ** 400)

    def test_papers_far_away(self):
        for row in (Quotient((4, 1), (3, 2, 1)), Quotient((2,), (3,)), Quotient((), (1,)), Quotient((5, 5), (11,))):
            for number in (-1, -2, -3, -7, -100, -10 ** 30, -LONG):
                paper = paper_against(row, ("depth", number))
                self.assertLess(depth_of(row, fraction(paper[1])), number)
                self.assertIs(is_paper_against(row, ("depth", number), paper), True)

    def test_judged_papers(self):
        for row in SOME[::2] + (MIDDLE, TURNED, BROKEN, CHEBYSHEV, FIVE, GREAT):
            facts = plain_facts(row)
            places = places_of(row)
            values = [("excess", number) for number in (facts[3], facts[3] + 1, 0, 1)]
            values += [("height", number) for number in (facts[1], facts[1] - 1, 0, 1)]
            values += [("at", pair(place)) for place in places[::1 + len(places) // 9]]
            values += [("at", told) for told in ((1, 1), (14, 3), (10 ** 90, 7), (10 ** 90, 1), (10 ** 70, 10 ** 70 + 1),
                                                 (1, 10 ** 70), (row.greatest - 1, row.greatest), (1, row.greatest))
                       if row.greatest > 1 or told[0] > 0]
            for promise in PROMISES[:4] + (("height", 0), ("height", 1), ("depth", -1), ("depth", 0), ("depth", 1),
                                           ("depth", LONG), ("depth", -LONG), ("height", facts[1])):
                if is_promise(promise):
                    for value in values:
                        self.assertIs(is_paper_against(row, promise, value), plain_paper(row, facts, promise, value),
                                      (str(row), promise, value))

    def test_what_is_no_paper(self):
        wrong = WRONG + OBJECTS + (
            1, ("at",), ("at", (2, 3), 1), ["at", (2, 3)], ("at", [2, 3]), ("at", (4, 6)), ("at", (-1, 3)),
            ("at", (2, -3)), ("at", (2, 0)), ("at", 1), ("at", None), ("at", (True, 1)), ("at", (2, 3, 1)), ("At", (2, 3)),
            ((2, 3), "at"), (MIDDLE, (2, 3)), ("excess", 0), ("excess", False), ("excess", None), ("height", True),
            ("height", 10 ** 400), ("excess", 10 ** 400), ("at", (0, 1)), ("height", (1,)), (True, True))
        for promise in PROMISES:
            if promise not in (("height", 0), ("depth", 1), ("depth", 2), ("depth", LONG)):
                for row in (BROKEN, CHEBYSHEV, TURNED):
                    for value in wrong:
                        self.assertIs(is_paper_against(row, promise, value), False, (promise, value))
        self.assertIs(is_paper_against(MIDDLE, ("height", 0), ("height", True)), False)
        self.assertIs(is_paper_against(MIDDLE, ("height", 0), ("height", 1)), True)
        self.assertIs(is_paper_against(Quotient((2,), (1,)), ("balanced",), ("excess", True)), False)
        self.assertIs(is_paper_against(Quotient((2,), (1,)), ("balanced",), ("excess", 1)), True)
        self.assertIs(is_paper_against(MIDDLE, ("depth", 1), ("at", (0, 1))), True)
        self.assertIs(is_paper_against(MIDDLE, ("depth", 1), ("at", (False, 1))), False)

    def test_papers_against_several(self):
        row = Quotient((4, 1), (3, 2, 1))
        for promise in (("algebraic",), ("digits",)):
            self.assertIs(is_paper_against(BROKEN, promise, ("at", (2, 3))), True)
            self.assertIs(is_paper_against(BROKEN, promise, ("at", (1, 3))), False)
            self.assertIs(is_paper_against(row, promise, ("excess", row.excess)), True)
        self.assertIs(is_paper_against(BROKEN, ("algebraic",), ("height", 0)), True)
        self.assertIs(is_paper_against(BROKEN, ("digits",), ("height", 0)), False)
        self.assertIs(is_paper_against(CHEBYSHEV, ("digits",), ("at", (0, 1))), False)
        self.assertIs(is_paper_against(CHEBYSHEV, ("digits",), ("at", (1, 31))), False)
        self.assertIs(is_paper_against(CHEBYSHEV, ("digits",), ("at", (6, 5))), False)
        self.assertIs(is_paper_against(CHEBYSHEV, ("digits",), ("at", (1, 5))), True)
