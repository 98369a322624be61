"""[20.1], [20.2] and wholerises.text.formats."""

import re

from wholerises.errors import InvalidOperation, InvalidRising, InvalidRow, ParseError
from wholerises.rise.risings import Rising
from wholerises.row.quotients import Quotient
from wholerises.stair.stairs import stairs
from wholerises.text.formats import read_rising, read_row, read_stairs, write_rising, write_row, write_stairs
from tests.support import (
    CHEBYSHEV, HALF, LONG, MIDDLE, NO_RISINGS, NO_ROWS, OBJECTS, RISINGS, ROWS, WRONG, Case, drawn_rows)

PLAIN = "(0|[1-9][0-9]{0,59})"
SIGNED = f"(0|-?[1-9][0-9]{{0,59}})"
RATIO = f"{SIGNED}/{PLAIN}"
SIDE = f"(-|{PLAIN}(,{PLAIN})*)"
# A text that can go on ends with one of these, whatever it lacks.
ROW = (f"{SIDE}/{SIDE}", ("", "1", "/1", "1/1"))
RISING = (f"{RATIO}(,{RATIO})*;{RATIO}(,{RATIO})*", ("", "1", "/1", "1/1", ";1/1", "1;1/1", "/1;1/1", "1/1;1/1"))
STAIRS = (f"{RATIO}:{SIGNED}(,{RATIO}:{SIGNED})*", ("", "1", ":1", "1:1", "/1:1", "1/1:1"))
SIGNS = "0127 -/,:;.+xa\n\t_"
NO_TEXTS = tuple(value for value in WRONG + OBJECTS if not isinstance(value, str)) + (1, b"2/1,1", ("2/1,1",))
# Each is a text of its kind that tells none.
NO_ROW_TEXTS = ("-/-", "0/1", "1/0", "61/1", "1/61", "1/1", "2,1/1,2", "59/60", "1,1,1,1,1,1,1,1,1/2", "-/" + "9" * 60,
                "7,11/13,17", "1/1,1,1,1,1,1,1,1,1")
NO_RISING_TEXTS = ("2/4;1/1", "1/2;2/2", "0/1;1/1", "1/2;3/2", "-1/2;1/1", "1/0;1/1", "1/2;1/2", "1/2,1/3;1/1",
                   "1/2;0/1", ",".join(["1/2"] * 7) + ";" + ",".join(["1/1"] * 7), "1/839;1/2", "0/0;0/0",
                   "9" * 60 + "/1;1/1")
NO_STAIR_TEXTS = ("2/4:1", "1/0:0", "0/2:0", "1/2:0,1/2:1", "1/2:0,1/3:1", "0/0:0", "0/1:0,0/1:0",
                  ",".join(f"{k}/1:0" for k in range(1001)))


def error_at(text, form):
    """The index that the parse error of a text keeps, or None if it has the form, by the definition."""
    pattern, tails = form
    if re.fullmatch(pattern, text):
        return None
    for at in range(len(text)):
        if not any(re.fullmatch(pattern, text[:at + 1] + tail) for tail in tails):
            return at
    return len(text)


def spoilt(text):
    """The text with one sign spoilt, put in, left out, and cut off."""
    made = {text[:at] for at in range(len(text))}
    for at in range(len(text) + 1):
        made |= {text[:at] + sign + text[at:] for sign in SIGNS}
        if at < len(text):
            made |= {text[:at] + text[at + 1:]} | {text[:at] + sign + text[at + 1:] for sign in SIGNS}
    return sorted(made)


class Writing(Case):

    def test_rows(self):
        self.same([write_row(row) for row in (MIDDLE, CHEBYSHEV, Quotient((), (2,)), Quotient((1,), ()))],
                  ["2/1,1", "30,1/15,10,6", "-/2", "1/-"])
        for row in ROWS + tuple(drawn_rows(100)):
            text = write_row(row)
            self.same(text, "/".join(",".join(map(str, side)) or "-" for side in (row.tops, row.bottoms)))
            self.assertTrue(read_row(text) == row)

    def test_risings(self):
        self.same(write_rising(Rising(((5, 6), (1, 6)), ((1, 1), (1, 2)))), "1/6,5/6;1/2,1/1")
        for rising in RISINGS:
            text = write_rising(rising)
            self.same(text, ";".join(",".join(f"{a}/{b}" for a, b in side) for side in (rising.tops, rising.bottoms)))
            self.assertTrue(read_rising(text) == rising)

    def test_stairs(self):
        self.same(write_stairs((((0, 1), 0), ((1, 2), 1))), "0/1:0,1/2:1")
        self.same(write_stairs((((-LONG, 1), -LONG), ((-1, 2), LONG), ((LONG, 2), 0))),
                  f"-{LONG}/1:-{LONG},-1/2:{LONG},{LONG}/2:0")
        for told in [stairs(row) for row in ROWS + tuple(drawn_rows(100))] + [
                (((-3, 2), 5),), tuple(((k, 1), -k) for k in range(1000)), (((LONG - 1, LONG), 1), ((1, 1), -1))]:
            text = write_stairs(told)
            self.same(text, ",".join(f"{a}/{b}:{depth}" for (a, b), depth in told))
            self.same(read_stairs(text), told)

    def test_they_refuse(self):
        self.refused_each(InvalidRow, write_row, NO_ROWS)
        self.refused_each(InvalidRising, write_rising, NO_RISINGS)
        self.refused_each(InvalidOperation, write_stairs, WRONG + OBJECTS + (
            1, ((0, 1), 0), [((0, 1), 0)], (((0, 1),),), (((0, 1), 0, 0),), (((0, 1), True),), (((0, 1), None),),
            (((0, 2), 0),), (((2, 4), 0),), (((1, 0), 0),), (([0, 1], 0),), ([(0, 1), 0],), (((0, 1), 10 ** 60),),
            (((10 ** 60, 1), 0),), (((0, 1), 0), ((0, 1), 1)), (((1, 2), 0), ((1, 3), 1)), (((0, 1), "0"),),
            (((True, 1), 0),), tuple(((k, 1), 0) for k in range(1001)), (((0, 1), 0), None), "0/1:0"))


class Reading(Case):

    def test_any_order(self):
        for text in ("30,1/15,10,6", "1,30/6,15,10", "1,30/10,6,15"):
            self.assertTrue(read_row(text) == CHEBYSHEV)
        self.assertTrue(read_row("4,2/1,2,3") == Quotient((4,), (1, 3)))
        self.assertTrue(read_rising("5/6,1/6;1/1,1/2") == read_rising("1/6,5/6;1/2,1/1"))
        self.assertTrue(read_rising("1/3,1/2;1/3,1/1") == HALF)

    def test_no_strings(self):
        for read in (read_row, read_rising, read_stairs):
            for value in NO_TEXTS:
                self.refused(ParseError(0), read, value)
            for text in ("", " ", "x", "/", ",", ";", ":", "+1", "\n", "\t\n" * 1500, " 2/1,1"):
                self.refused(ParseError(0), read, text)

    def test_texts_that_tell_none(self):
        for read, wanted, form, texts in ((read_row, InvalidRow, ROW, NO_ROW_TEXTS),
                                          (read_rising, InvalidRising, RISING, NO_RISING_TEXTS),
                                          (read_stairs, InvalidOperation, STAIRS, NO_STAIR_TEXTS)):
            for text in texts:
                self.assertIsNone(error_at(text, form), text)
                self.refused(wanted, read, text)

    def test_some_indices(self):
        for read, text, index in (
                (read_row, "2", 1), (read_row, "2/", 2), (read_row, "2,/1", 2), (read_row, "02/1", 1), (read_row, "2/1,", 4),
                (read_row, "-2/1", 1), (read_row, "-", 1), (read_row, "2/-1", 3), (read_row, "2/1/1", 3),
                (read_row, "2/1 ", 3), (read_row, "2 /1", 1), (read_row, "1" * 61 + "/1", 60), (read_row, "-,2/1", 1),
                (read_row, "2/1,-", 4), (read_row, "00/1", 1), (read_rising, "1/2", 3), (read_rising, "1/2;", 4),
                (read_rising, "1/2;1/1;", 7), (read_rising, "-0/1;1/1", 1), (read_rising, "1/-2;1/1", 2),
                (read_rising, "1/02;1/1", 3), (read_rising, "-", 1), (read_rising, "1/2,;1/1", 4),
                (read_rising, "1;1/1", 1), (read_stairs, "0/1", 3), (read_stairs, "0/1:", 4), (read_stairs, "0/1:-", 5),
                (read_stairs, "0/1:-0", 5), (read_stairs, "0/1:00", 5), (read_stairs, "0/1:0,", 6),
                (read_stairs, "0/1:0;1/2:1", 5), (read_stairs, "0/1:--1", 5), (read_stairs, "--1/2:0", 1),
                (read_stairs, "-" + "1" * 61 + "/1:0", 61)):
            self.refused(ParseError(index), read, text)

    def test_spoilt_texts(self):
        for read, form, texts in (
                (read_row, ROW, ("30,1/15,10,6", "-/2", "2/-", "60,45,36,28/56,40")),
                (read_rising, RISING, ("1/2;1/1", "1/6,5/6;1/2,1/1")),
                (read_stairs, STAIRS, ("0/1:0,1/2:1", "-7/2:-10,10/3:0"))):
            seen = set()
            for text in texts:
                for made in spoilt(text):
                    seen.add(self.reads(read, form, made))
            self.same(len(seen), 3)

    def reads(self, read, form, text):
        """The text is read, or refused as the definition says; how it went."""
        index = error_at(text, form)
        if index is not None:
            self.refused(ParseError(index), read, text)
            return "no form"
        try:
            found = read(text)
        except (InvalidRow, InvalidRising, InvalidOperation):
            return "none"
        write = {read_row: write_row, read_rising: write_rising, read_stairs: write_stairs}[read]
        again = read(write(found))
        self.assertTrue(again == found)
        return "read"

    def test_long_integers(self):
        for digits in (60, 61):
            number = "1" * digits
            for text, at in ((f"{number}/1:0", 60), (f"-{number}/1:0", 61), (f"1/{number}:0", 62), (f"0/1:{number}", 64),
                             (f"0/1:-{number}", 65)):
                if digits == 60:
                    self.same(write_stairs(read_stairs(text)), text)
                else:
                    self.refused(ParseError(at), read_stairs, text)
        self.refused(InvalidRow, read_row, "1" * 60 + "/1")
