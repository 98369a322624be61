"""[20.3], [20.4] and wholerises.text.shell."""

import re
from fractions import Fraction
from math import factorial, prod

from wholerises.desk.desks import Desk
from wholerises.errors import InvalidOperation, InvalidRow
from wholerises.row.quotients import Quotient
from wholerises.stair.stairs import stairs
from wholerises.stair.wholes import fault
from wholerises.text.formats import write_row, write_stairs
from wholerises.text.shell import Shell
from tests.plain_desk import ROWS, PlainDesk, drawing_of, drawn_deed, drawn_promise, facts_of
from tests.support import (
    BROKEN, CHEBYSHEV, FIVE, GREAT, GREATEST, MIDDLE, OBJECTS, SHORT, TURNED, WRONG, Case, depth_of, is_plain_prime,
    numbers_of)
from tests.test_promises import plain_hold

INTEGER, SIGNED = "(0|[1-9][0-9]{0,8})", "(0|-?[1-9][0-9]{0,8})"
SIDE = "(-|(0|[1-9][0-9]{0,59})(,(0|[1-9][0-9]{0,59}))*)"
PIECES = {"N": INTEGER, "Z": SIGNED, "X": "(0|-?[1-9][0-9]{0,59})/(0|[1-9][0-9]{0,59})", "R": f"{SIDE}/{SIDE}"}
COMMANDS = {
    "top": "N", "bottom": "N", "times": "N", "plus": "R", "divided": "", "exchanged": "", "open": "", "end": "",
    "cancel": "", "promise": "P", "drop": "P", "undo": "N", "promises": "", "show": "", "stairs": "", "ask": "P",
    "height": "", "excess": "", "depth": "X", "exponent": "NN", "number": "N", "fault": ""}
PROMISES = ("whole", "balanced", "algebraic", "digits", "height", "depth")
SPOILERS = ("", "x", "0", "1", "-1", "-0", "01", "61", "123456789", "1234567890", "whole", "height", "1/2", "2/4", "1/0",
            "2/1,1", "-/-", "7/5,3,2,1,1,1,1,1,1", "top", "Top", "undo", "+1", "1.5", "\t", "\n", "1/2/3", "-", "/")


def wrong_piece(text):
    """The index that `wrong at` tells for a text that is not empty, or None if each piece can stand, by the table."""
    pieces = text.split(" ")
    if pieces[0] not in COMMANDS:
        return 0
    at = 1
    forms = "" if text == "undo" else COMMANDS[pieces[0]]
    while forms:
        if at == len(pieces):
            return at
        form, forms = forms[0], forms[1:]
        if form == "P":
            if pieces[at] not in PROMISES:
                return at
            forms = "Z" if pieces[at] in ("height", "depth") else ""
        elif not re.fullmatch(PIECES[form], pieces[at]):
            return at
        at += 1
    return at if at < len(pieces) else None


def promise_of(pieces):
    """The tuple that pieces tell as a promise."""
    return (pieces[0],) if len(pieces) == 1 else (pieces[0], int(pieces[1]))


def text_of(promise):
    """The pieces of a promise."""
    return " ".join(map(str, promise))


def is_told(promise):
    """Whether a tuple that pieces tell is a promise."""
    return promise[0] != "height" or -8 <= promise[1] <= 8


def row_told(text):
    """The row of a row text that has the form, or None."""
    sides = [() if side == "-" else tuple(map(int, side.split(","))) for side in text.split("/")]
    try:
        return Quotient(*sides)
    except InvalidRow:
        return None


class PlainShell:
    """The answers of a shell, by the table and the model of desks."""

    def __init__(self, row):
        self.desk = PlainDesk(row)

    def say(self, text):
        """The answer."""
        if not text:
            return ""
        wrong = wrong_piece(text)
        if wrong is not None:
            return f"wrong at {wrong}"
        word, *pieces = text.split(" ")
        if word in ("top", "bottom", "times", "plus", "divided", "exchanged"):
            return self.deed(word, pieces)
        if word in ("open", "end", "cancel", "undo"):
            return self.step(word, pieces)
        if word in ("promise", "drop", "ask"):
            return self.promise(word, promise_of(pieces))
        return self.question(word, pieces)

    def refused(self, told):
        """The answer to what is refused."""
        return f"refused broken {text_of(told[1])}" if told[0] == "broken" else f"refused deed {told[1]} {told[2]}"

    def versioned(self, told):
        """The answer to what returns a version."""
        return self.refused(told) if isinstance(told, tuple) else f"version {told}"

    def deed(self, word, pieces):
        """The answer to a deed."""
        deed = (word,) if not pieces else (word, row_told(pieces[0]) if word == "plus" else int(pieces[0]))
        if deed[-1] is None or (word in ("top", "bottom", "times") and not 1 <= deed[1] <= 60):
            return "invalid"
        if self.desk.gathered is None:
            return self.versioned(self.desk.do((deed,)))
        told = self.desk.put(deed)
        return self.refused(told) if isinstance(told, tuple) else f"put {told}"

    def step(self, word, pieces):
        """The answer to what opens and closes batches, and to what goes back."""
        if word in ("end", "cancel"):
            if self.desk.gathered is None:
                return "no batch"
            return self.versioned(self.desk.end()) if word == "end" else self.desk.cancel() or "dropped"
        if self.desk.gathered is not None:
            return "invalid"
        if word == "open":
            return self.desk.open() or "open"
        count = int(pieces[0]) if pieces else 1
        told = self.desk.undo(count) if count else "invalid"
        return {"nothing": "nothing to undo", "invalid": "invalid"}.get(told, f"version {told}")

    def promise(self, word, promise):
        """The answer to what is about a promise."""
        if not is_told(promise) or (word != "ask" and self.desk.gathered is not None):
            return "invalid"
        if word == "ask":
            return "yes" if plain_hold(facts_of(self.desk.row().members), promise) else "no"
        if word == "drop":
            told = self.desk.drop(promise)
            return told if told == "missing" else f"version {told}"
        told = self.desk.promise(promise)
        if isinstance(told, tuple):
            return self.refused(told)
        return {True: "new", False: "known", "many": "invalid"}[told]

    def question(self, word, pieces):
        """The answer to a question."""
        row = self.desk.row()
        if word == "promises":
            return ", ".join(map(text_of, self.desk.now()[1])) or "none"
        if word == "show":
            return "/".join(",".join(map(str, side)) or "-" for side in (row.tops, row.bottoms))
        if word == "stairs":
            return ",".join(f"{a}/{b}:{depth}" for (a, b), depth in stairs(row))
        if word == "fault":
            told = fault(row)
            return "none" if told is None else " ".join(
                f"{one[0]}/{one[1]}" if isinstance(one, tuple) else str(one) for one in told)
        if word in ("height", "excess"):
            return str(len(row.bottoms) - len(row.tops) if word == "height" else sum(row.tops) - sum(row.bottoms))
        if word == "depth":
            top, bottom = map(int, pieces[0].split("/"))
            if bottom < 1 or top < 0 or Fraction(top, bottom).denominator != bottom:
                return "invalid"
            return str(depth_of(row, Fraction(top, bottom)))
        number = int(pieces[-1])
        if word == "exponent":
            if int(pieces[0]) > 10 ** 6 or not is_plain_prime(int(pieces[0])):
                return "invalid"
            return str(row.exponent(int(pieces[0]), number))
        if row.greatest * number > 600:
            return "invalid"
        value = numbers_of(row, number)
        return f"{value.numerator}/{value.denominator}"


def drawn_text(drawing):
    """A command, most often one that can be said."""
    kind = drawing.choice(("deed",) * 5 + ("promise", "drop", "ask", "undo", "open", "end", "question", "question", "cancel"))
    if kind == "deed":
        deed = drawn_deed(drawing)
        return " ".join([deed[0]] + [write_row(one) if isinstance(one, Quotient) else str(one) for one in deed[1:]])
    if kind in ("promise", "drop", "ask"):
        return f"{kind} {text_of(drawn_promise(drawing))}"
    if kind == "undo":
        return drawing.choice(("undo", "undo 1", "undo 2", "undo 0", "undo 999999999"))
    if kind == "question":
        return drawing.choice((
            "show", "stairs", "fault", "height", "excess", "promises", "depth 1/2", "depth 7/3", "depth 0/1", "depth -1/2",
            "depth 2/4", "exponent 7 2", "exponent 2 999999999", "exponent 4 1", "exponent 0 0", "number 0", "number 3",
            "number 10", "number 300", "number 999999999", "", "depth 1/0"))
    return kind


class Saying(Case):

    def test_each_command_with_one_piece_spoilt(self):
        texts = ("top 3", "bottom 2", "times 2", "plus 3/2,1", "divided", "exchanged", "open", "end", "cancel",
                 "promise whole", "promise height 1", "promise depth -1", "drop whole", "drop depth 0", "undo", "undo 1",
                 "promises", "show", "stairs", "ask digits", "ask height -1", "height", "excess", "depth 1/2",
                 "exponent 2 3", "number 2", "fault")
        for text in texts:
            pieces = text.split(" ")
            made = {text} | {" ".join(pieces[:at]) for at in range(len(pieces))}
            for at in range(len(pieces) + 1):
                for spoiler in SPOILERS:
                    made |= {" ".join(pieces[:at] + [spoiler] + pieces[at:])}
                    made |= {" ".join(pieces[:at] + [spoiler] + pieces[at + 1:])}
                made |= {" ".join(pieces[:at] + pieces[at + 1:])}
            for said in sorted(made):
                for ahead in ((), ("open",), ("promise whole",), ("top 3", "open", "bottom 3")):
                    shell, plain = Shell(MIDDLE), PlainShell(MIDDLE)
                    for before in ahead + (said,):
                        self.same(shell.say(before), plain.say(before))
                    self.agree(shell, plain, len(ahead) + 1)

    def agree(self, shell, plain, many):
        """The shell is in the state of the model."""
        members, promises = plain.desk.now()
        self.same((shell.desk.row.members, shell.desk.promises), (dict(sorted(members.items())), promises))
        self.same((shell.desk.version, len(shell)), (plain.desk.version(), many))
        self.same(str(shell), f"shell of {write_row(shell.desk.row)}, version {plain.desk.version()}")

    def test_long_histories(self):
        for seed in range(60):
            drawing = drawing_of(1000 + seed)
            row = drawing.choice(ROWS)
            shell, plain = Shell(row), PlainShell(row)
            for many in range(1, 151):
                text = drawn_text(drawing)
                self.same(shell.say(text), plain.say(text))
                self.agree(shell, plain, many)

    def test_each_character_spoilt(self):
        texts = ("plus 30,1/15,10,6", "promise height -12", "exponent 7 25", "depth 14/3", "undo 1")
        for text in texts:
            for at in range(len(text) + 1):
                for sign in " 0-/,x":
                    for said in (text[:at] + sign + text[at:], text[:at] + sign + text[at + 1:], text[:at]):
                        shell, plain = Shell(FIVE), PlainShell(FIVE)
                        self.same(shell.say(said), plain.say(said))

    def test_spaces(self):
        for text, answer in ((" ", "wrong at 0"), ("  ", "wrong at 0"), ("show ", "wrong at 1"), (" show", "wrong at 0"),
                             ("top  3", "wrong at 1"), ("top 3 ", "wrong at 2"), ("promise  whole", "wrong at 1"),
                             ("promise height ", "wrong at 2"), ("top\t3", "wrong at 0"), ("show\n", "wrong at 0"),
                             ("undo ", "wrong at 1"), ("exponent 7", "wrong at 2"), ("exponent", "wrong at 1"),
                             ("promise height", "wrong at 2"), ("end x", "wrong at 1"), ("top 99 x", "wrong at 2"),
                             ("depth 2/4 x", "wrong at 2"), ("plus -/-", "invalid"), ("plus 2", "wrong at 1"),
                             ("plus 61/1", "invalid"), ("ask depth -999999999", "yes"), ("ask depth 999999999", "no"),
                             ("ask depth -1000000000", "wrong at 2"), ("ask depth 1000000000", "wrong at 2"),
                             ("exponent 7 999999999", "6"), ("exponent 7 1000000000", "wrong at 2"), ("plus " + "1" * 61 + "/1", "wrong at 1"), ("", "")):
            shell = Shell(MIDDLE)
            self.same((shell.say(text), len(shell), shell.desk.version), (answer, 1, 0))

    def test_faults(self):
        self.same([Shell(row).say("fault") for row in (MIDDLE, BROKEN, TURNED, SHORT)],
                  ["none", "stair 2/3 3/4 -1", "stair 1/2 1/1 -1", "excess -1"])

    def test_stairs_and_texts(self):
        for row in (GREATEST, GREAT, CHEBYSHEV, Quotient((), (7,)), Quotient((1,), ())):
            shell = Shell(row)
            self.same((shell.say("stairs"), shell.say("show")), (write_stairs(stairs(row)), write_row(row)))

    def test_the_greatest_numbers(self):
        row = Quotient((60,) * 8, ())
        for shell, sign in ((Shell(row), 1), (Shell(row.exchanged()), -1)):
            top, bottom = shell.say("number 10").split("/")
            long, short = (top, bottom) if sign == 1 else (bottom, top)
            self.same((short, len(long) > 4300), ("1", True))
            left, power = prod([factorial(600)] * 8), 10 ** 1000
            for at in range(len(long), 0, -1000):
                left, rest = divmod(left, power)
                self.same(int(long[max(0, at - 1000):at]), rest)
            self.same((left, long[0] != "0"), (0, True))
            self.same(shell.say("number 11"), "invalid")
        self.same(Shell(MIDDLE).say("number 300"), f"{numbers_of(MIDDLE, 300).numerator}/1")

    def test_long_ratios(self):
        shell = Shell(Quotient((2,), (1,)))
        self.same(shell.say("depth " + "9" * 60 + "/1"), "9" * 60)
        self.same(shell.say("depth " + "9" * 61 + "/1"), "wrong at 1")
        self.same(shell.say("exponent 2 999999999"), "999999999")


class Running(Case):

    def test_run(self):
        shell = Shell(MIDDLE)
        walk = shell.run(("top 3", "show", "x", ""))
        self.same((len(shell), shell.desk.version), (0, 0))
        self.same((next(walk), len(shell), shell.desk.version), ("version 1", 1, 1))
        self.same((shell.say("undo"), next(walk), next(walk), next(walk), len(shell)),
                  ("version 0", "2/1,1", "wrong at 0", "", 5))
        self.same((list(walk), list(shell.run(())), len(shell)), ([], [], 5))

    def test_a_batch(self):
        shell = Shell(MIDDLE)
        self.same(list(shell.run((
            "end", "cancel", "promise whole", "open", "open", "exchanged", "show", "ask whole", "promises", "height",
            "plus 2/1,1", "end", "show", "cancel", "open", "times 3", "top 1", "stairs", "cancel", "show", "open",
            "bottom 2", "number 1", "fault", "end", "undo", "undo"))), [
                "no batch", "no batch", "new", "open", "invalid", "put 1", "1,1/2", "no", "whole", "-1",
                "refused deed 1 empty", "refused broken whole", "2/1,1", "no batch", "open", "put 1", "put 2",
                "0/1:0,1/6:1,1/3:0,1/2:1,2/3:0,5/6:1", "dropped", "2/1,1", "open", "put 1", "1/1", "excess -2",
                "refused broken whole", "version 0", "nothing to undo"])

    def test_its_desk(self):
        shell = Shell(BROKEN)
        self.assertIsInstance(shell.desk, Desk)
        self.assertIs(shell.desk, shell.desk)
        self.assertTrue(shell.desk == Desk(BROKEN))
        shell.say("open")
        self.refused(InvalidOperation, shell.desk.undo)
        shell.say("cancel")
        with shell.desk.batch() as batch:
            self.same((shell.say("times 2"), shell.say("show"), batch.put(("divided",))), ("put 1", "8,2/6,4", 2))
            self.same((shell.say("end"), batch.is_open), ("version 0", False))
        self.same(shell.desk.do((("times", 2),)), 1)
        self.same((shell.say("show"), str(shell)), ("8,2/6,4", "shell of 8,2/6,4, version 1"))

    def test_nine_promises(self):
        shell = Shell(MIDDLE)
        for number in range(8):
            self.same(shell.say(f"promise depth -{number}" if number else "promise depth 0"), "new")
        self.same((shell.say("promise whole"), shell.say("promise depth -3"), shell.say("promise height 2")),
                  ("invalid", "known", "refused broken height 2"))
        self.same(shell.say("promises"), ", ".join(["depth 0"] + [f"depth -{number}" for number in range(1, 8)]))

    def test_they_refuse(self):
        shell = Shell(MIDDLE)
        wrong = tuple(value for value in WRONG + OBJECTS if not isinstance(value, str) or len(value) > 2000) + (
            1, ("show",), b"show", "x" * 2001)
        for value in wrong:
            self.refused(InvalidOperation, shell.say, value)
            if value != () and value != ("show",):
                self.refused(InvalidOperation, next, shell.run(value))
            self.refused(InvalidOperation, next, shell.run(("top 3", value)))
        for value in (["show"], "show", None, {"show": 1}):
            self.refused(InvalidOperation, next, shell.run(value))
        self.same((len(shell), shell.desk.version), (0, 0))
        self.same((shell.say("x" * 2000), len(shell)), ("wrong at 0", 1))
        self.refused(InvalidRow, Shell, None)
