"""[19.3] to [19.5], the conventions on what changes, and wholerises.desk.desks."""

from wholerises.desk import desks as module
from wholerises.desk.desks import Batch, Desk
from wholerises.desk.promises import is_paper_against
from wholerises.errors import (
    InvalidNumber, InvalidOperation, InvalidPromise, InvalidRow, NothingToUndo, Refused, TooMany, UnknownName)
from wholerises.row.quotients import Quotient
from tests.plain_desk import ROWS, PlainDesk, drawing_of, drawn_deed, drawn_promise, row_of
from tests.support import BROKEN, CHEBYSHEV, FIVE, LONG, MIDDLE, NO_INTEGERS, OBJECTS, TURNED, WRONG, Case
from tests.test_promises import NO_PROMISES, PROMISES

NO_DEEDS = WRONG + OBJECTS + (
    1, "top", ("top",), ("top", 0), ("top", 61), ("top", -1), ("top", True), ("top", None), ("top", "1"), ("top", 1, 1),
    ("top", MIDDLE), ("bottom",), ("bottom", 0), ("bottom", 61), ("bottom", False), ("bottom", LONG), ("times",),
    ("times", 0), ("times", 61), ("times", True), ("times", MIDDLE), ("plus",), ("plus", 1), ("plus", None),
    ("plus", "2/1,1"), ("plus", MIDDLE, MIDDLE), ("plus", ((2,), (1, 1))), ("divided", 1), ("divided", None),
    ("exchanged", 1), ["exchanged"], ("Exchanged",), ("exchange",), (("exchanged",),), (MIDDLE,), (MIDDLE, 1), (1, 1),
    ({}, 1), ("height", 1), ("divided", ()))
DEED = ("exchanged",)


class Checked(Case):
    """A test case that compares a desk with its model."""

    def agree(self, desk, plain):
        """The desk is in the state of the model."""
        members, promises = plain.now()
        self.assertTrue(desk.row == row_of(members))
        self.same((desk.promises, desk.version), (promises, plain.version()))

    def answers(self, wanted, action, *given):
        """The call answers as the model does, or raises what the answer of the model says."""
        if isinstance(wanted, tuple) and wanted[:1] == ("deed",):
            self.refused(Refused(wanted), action, *given)
        elif isinstance(wanted, tuple) and wanted[:1] == ("broken",):
            with self.assertRaises(Refused) as caught:
                action(*given)
            told = caught.exception.reason
            self.same((len(told), told[:2]), (3, wanted))
            return told[2]
        else:
            self.same(action(*given), wanted)
        return None


class Deeds(Checked):

    def test_constants(self):
        self.same((module.MAX_PROMISES, module.MAX_DEEDS), (8, 20))

    def test_each_deed(self):
        for row in ROWS:
            for deed in [("top", n) for n in (1, 2, 3, 7, 60)] + [("bottom", n) for n in (1, 2, 4, 60)] + [
                    ("plus", other) for other in ROWS] + [("times", n) for n in (1, 2, 3, 60)] + [("divided",), DEED]:
                desk, plain = Desk(row), PlainDesk(row)
                self.answers(plain.do((deed,)), desk.do, (deed,))
                self.agree(desk, plain)

    def test_words(self):
        eight = Quotient((2,) * 8, (1,) * 8)
        for row, deed, word in (
                (MIDDLE, ("plus", TURNED), "empty"), (Quotient((1,), ()), ("bottom", 1), "empty"),
                (eight, ("top", 3), "many"), (eight, ("bottom", 3), "many"), (eight, ("plus", eight), "many"),
                (eight, ("top", 59), "many"), (eight, ("plus", Quotient((59,), (41,))), "many"),
                (CHEBYSHEV, ("times", 3), "great"), (MIDDLE, ("times", 31), "great"),
                (Quotient((56, 45), ()), ("bottom", 11), "great"), (Quotient((56, 45), ()), ("top", 11), "great"),
                (Quotient((56, 45), ()), ("plus", Quotient((), (11,))), "great")):
            desk = Desk(row)
            self.refused(Refused(("deed", 0, word)), desk.do, (deed,))
            self.refused(Refused(("deed", 0, word)), desk.would, (deed,))
            self.refused(Refused(("deed", 2, word)), desk.do, (DEED, DEED, deed))
            self.same((desk.version, desk.row == row), (0, True))
        desk = Desk(eight)
        self.same([desk.do((("top", 1),)), str(desk.row)], [1, "quotient 2 2 2 2 2 2 2 2/1 1 1 1 1 1 1"])

    def test_a_row_that_comes_back(self):
        desk = Desk(MIDDLE)
        for deeds in ((DEED, DEED), (("top", 7), ("bottom", 7)), (("times", 1),), (("divided",),),
                      (("times", 3), ("divided",))):
            self.same(desk.do(deeds), 0)
        self.same(desk.version, 0)

    def test_a_first_deed_that_fails(self):
        desk = Desk(MIDDLE)
        self.refused(Refused(("deed", 1, "great")), desk.do, (("top", 7), ("times", 10), ("plus", TURNED)))
        self.refused(Refused(("deed", 1, "empty")), desk.do, (("times", 2), ("plus", TURNED * 2), ("times", 60)))

    def test_they_refuse(self):
        for wrong in NO_DEEDS:
            for action in ("do", "would"):
                desk = Desk(MIDDLE)
                if wrong != (DEED,):
                    self.refused(InvalidOperation, getattr(desk, action), wrong)
                self.refused(InvalidOperation, getattr(desk, action), (wrong,))
                self.refused(InvalidOperation, getattr(desk, action), (("plus", TURNED), wrong))
                self.refused(InvalidOperation, getattr(desk, action), [DEED])
            self.refused(InvalidOperation, Desk(MIDDLE).batch().put, wrong)
        for many in (0, 21, 2000):
            self.refused(InvalidOperation, Desk(MIDDLE).do, (DEED,) * many)
        self.same([Desk(MIDDLE).do((DEED,) * many) for many in (1, 19, 20)], [1, 1, 0])


class Promised(Checked):

    def test_promises(self):
        for row in ROWS:
            for promise in PROMISES:
                desk, plain = Desk(row), PlainDesk(row)
                paper = self.answers(plain.promise(promise), desk.promise, promise)
                if paper is not None:
                    self.assertIs(is_paper_against(row, promise, paper), True)
                else:
                    self.same(desk.promise(promise), False)
                self.agree(desk, plain)

    def test_eight(self):
        desk = Desk(MIDDLE)
        for number in range(8):
            self.same(desk.promise(("depth", -number)), True)
        self.same((len(desk), desk.version), (8, 8))
        self.refused(TooMany(8), desk.promise, ("whole",))
        self.same(desk.promise(("depth", -7)), False)
        with self.assertRaises(Refused):
            desk.promise(("height", 2))
        self.same((desk.drop(("depth", -3)), desk.promise(("whole",)), len(desk)), (9, True, 8))
        self.same(desk.promises[-1], ("whole",))

    def test_the_first_promise_that_does_not_hold(self):
        desk = Desk(MIDDLE)
        for promise in (("depth", -1), ("height", 1), ("whole",), ("balanced",)):
            desk.promise(promise)
        with self.assertRaises(Refused) as caught:
            desk.do((DEED,))
        self.same(caught.exception.reason, ("broken", ("height", 1), ("height", -1)))
        self.same(desk.would((DEED,)), (("height", 1), ("whole",)))
        with self.assertRaises(Refused) as caught:
            desk.do((DEED, ("top", 1)))
        self.same(caught.exception.reason[:2], ("broken", ("height", 1)))
        self.same((desk.version, desk.row == MIDDLE), (4, True))

    def test_drops(self):
        desk = Desk(MIDDLE)
        desk.promise(("whole",))
        self.refused(UnknownName(("balanced",)), desk.drop, ("balanced",))
        self.same((desk.drop(("whole",)), desk.promises), (2, ()))
        self.refused(UnknownName(("whole",)), desk.drop, ("whole",))

    def test_they_refuse(self):
        desk = Desk(MIDDLE)
        for action in (desk.promise, desk.drop):
            self.refused_each(InvalidPromise, action, NO_PROMISES)
        self.same((desk.version, desk.promises), (0, ()))


class Versions(Checked):

    def test_undo(self):
        desk = Desk(MIDDLE)
        rows = [str(desk.row)]
        for number in range(2, 9):
            desk.do((("top", number), ("bottom", number + 1)))
            rows.append(str(desk.row))
        self.same([desk.undo(), str(desk.row), desk.undo(3), str(desk.row)], [6, rows[6], 3, rows[3]])
        self.refused(NothingToUndo(4), desk.undo, 4)
        self.refused(NothingToUndo(LONG), desk.undo, LONG)
        self.refused_each(InvalidNumber, desk.undo, NO_INTEGERS + (0, -1))
        self.same([desk.version, desk.undo(count=3), str(desk.row)], [3, 0, rows[0]])
        self.refused(NothingToUndo(1), desk.undo)

    def test_at(self):
        desk = Desk(MIDDLE)
        desk.promise(("whole",))
        desk.do((("times", 3),))
        desk.promise(("height", 1))
        wanted = [(MIDDLE, ()), (MIDDLE, (("whole",),)), (MIDDLE * 3, (("whole",),)),
                  (MIDDLE * 3, (("whole",), ("height", 1)))]
        for version, (row, promises) in enumerate(wanted):
            made = desk.at(version)
            self.same((made.row == row, made.promises, made.version), (True, promises, 0))
            made.do((("times", 2),))
            self.refused(NothingToUndo(2), made.undo, 2)
        self.refused_each(InvalidNumber, desk.at, NO_INTEGERS + (4, -1, LONG))
        self.same((desk.version, str(desk)), (3, "desk of quotient 6/3 3, 2 promises"))
        desk.undo(2)
        self.refused(InvalidNumber(2), desk.at, 2)
        self.assertTrue(desk.at(1) == desk)

    def test_equality(self):
        one, other = Desk(MIDDLE), Desk(MIDDLE)
        self.assertIs(one == other, True)
        one.promise(("whole",))
        self.assertIs(one == other, False)
        other.promise(("whole",))
        self.assertIs(one == other, True)
        one.promise(("balanced",))
        one.promise(("height", 1))
        other.promise(("height", 1))
        self.assertIs(one != other, True)
        other.promise(("balanced",))
        self.assertIs(one == other, False)
        one.drop(("balanced",))
        one.promise(("balanced",))
        self.assertIs(one == other, True)
        other.do((("times", 2),))
        self.assertIs(one == other, False)
        self.assertIs(Desk(MIDDLE) == Desk(CHEBYSHEV), False)

    def test_members_and_texts(self):
        desk = Desk(FIVE)
        self.same((str(desk), len(desk), list(desk), bool(desk.promises)), (
            "desk of quotient 5/1 1 1 1 1, 0 promises", 0, [], False))
        for promise in (("whole",), ("height", 4), ("depth", 0)):
            desk.promise(promise)
        self.same((list(desk), len(desk), str(desk)), (
            [("whole",), ("height", 4), ("depth", 0)], 3, "desk of quotient 5/1 1 1 1 1, 3 promises"))
        for value in WRONG + OBJECTS + NO_PROMISES + (("height", 3), ("depth", False), ("depth", 1), "whole", ["whole"]):
            self.assertIs(value in desk, False)
        self.assertIs(("depth", 0) in desk, True)
        self.assertIs(("whole",) in desk, True)


class Batches(Checked):

    def test_a_batch(self):
        desk = Desk(MIDDLE)
        desk.promise(("whole",))
        batch = desk.batch()
        self.assertIsInstance(batch, Batch)
        self.same([batch.is_open, batch.put(DEED), str(batch.row), str(desk.row)],
                  [True, 1, "quotient 1 1/2", "quotient 2/1 1"])
        self.refused(Refused(("deed", 1, "empty")), batch.put, ("plus", MIDDLE))
        self.same([batch.is_open, batch.put(DEED), batch.put(("times", 2)), batch.end(), batch.is_open], [True, 2, 3, 2, False])
        self.same((str(desk.row), str(batch.row), desk.version), ("quotient 4/2 2", "quotient 4/2 2", 2))

    def test_an_end_that_is_refused(self):
        desk = Desk(MIDDLE)
        desk.promise(("whole",))
        batch = desk.batch()
        batch.put(DEED)
        with self.assertRaises(Refused) as caught:
            batch.end()
        self.same(caught.exception.reason[:2], ("broken", ("whole",)))
        self.assertIs(is_paper_against(TURNED, ("whole",), caught.exception.reason[2]), True)
        self.same((batch.is_open, desk.version, desk.row == MIDDLE, desk.undo()), (False, 1, True, 0))

    def test_ends_without_changes(self):
        desk = Desk(MIDDLE)
        self.same(desk.batch().end(), 0)
        batch = desk.batch()
        self.same((batch.put(DEED), batch.put(DEED), batch.end()), (1, 2, 0))
        desk.do((("times", 2),))
        self.same((desk.batch().end(), desk.version), (1, 1))
        batch = desk.batch()
        self.same((batch.put(("top", 3)), batch.drop(), desk.version), (1, None, 1))

    def test_many_deeds(self):
        desk = Desk(MIDDLE)
        batch = desk.batch()
        for number in range(1, 202):
            self.same(batch.put(DEED), number)
        self.refused(Refused(("deed", 201, "empty")), batch.put, ("plus", MIDDLE))
        self.same((batch.end(), desk.row == TURNED), (1, True))

    def test_while_a_batch_is_open(self):
        desk = Desk(MIDDLE)
        desk.promise(("whole",))
        desk.promise(("balanced",))
        batch = desk.batch()
        for action in (lambda: desk.do((("times", 2),)), lambda: desk.do(None), lambda: desk.promise(("height", 1)),
                       lambda: desk.promise(None), lambda: desk.drop(("whole",)), lambda: desk.drop(None), desk.undo,
                       lambda: desk.undo(0), lambda: desk.undo(99), desk.batch):
            self.refused(InvalidOperation, action)
        self.same((desk.would((DEED,)), desk.at(0).promises, len(desk), desk.version), ((("whole",),), (), 2, 2))
        self.assertTrue(("whole",) in desk and desk == desk.at(2) and list(desk) == [("whole",), ("balanced",)])
        batch.drop()
        self.same((desk.drop(("whole",)), desk.undo(3)), (3, 0))

    def test_closed_batches(self):
        for close in ("end", "drop"):
            desk = Desk(MIDDLE)
            batch = desk.batch()
            batch.put(("times", 2))
            getattr(batch, close)()
            for action in (lambda: batch.put(DEED), lambda: batch.put(None), batch.end, batch.drop, batch.__enter__):
                self.refused(InvalidOperation, action)
            with self.assertRaises(InvalidOperation):
                with batch:
                    self.fail()
            self.same((batch.is_open, str(batch.row), desk.version), (False, "quotient 4/2 2", int(close == "end")))
            other = desk.batch()
            self.refused(InvalidOperation, batch.drop)
            self.same((other.is_open, other.put(DEED), batch.is_open), (True, 1, False))
            self.refused(InvalidOperation, desk.undo)

    def test_with(self):
        desk = Desk(MIDDLE)
        with desk.batch() as batch:
            self.same((batch.put(("times", 2)), batch.is_open), (1, True))
        self.same((batch.is_open, desk.version), (False, 0))
        with desk.batch() as batch:
            batch.put(("times", 2))
            self.same(batch.end(), 1)
            self.same((batch.is_open, desk.do((("times", 2),))), (False, 2))
        self.same((desk.version, str(desk.row)), (2, "quotient 8/4 4"))
        with desk.batch() as batch:
            batch.drop()
            inner = desk.batch()
            inner.put(DEED)
        self.same((batch.is_open, inner.is_open, inner.end()), (False, True, 3))
        made = desk.batch()
        with self.assertRaises(ZeroDivisionError):
            with made as batch:
                self.assertIs(batch, made)
                batch.put(DEED)
                raise ZeroDivisionError
        self.same((made.is_open, desk.version), (False, 3))
        with self.assertRaises(Refused):
            with desk.batch() as batch:
                batch.put(("times", 60))
        self.same((batch.is_open, desk.undo(3)), (False, 0))


class Histories(Checked):

    def test_long_histories(self):
        for seed in range(100):
            drawing = drawing_of(seed)
            row = drawing.choice(ROWS)
            desk, plain, batch = Desk(row), PlainDesk(row), None
            for _ in range(150):
                batch = self.step(drawing, desk, plain, batch)
                self.agree(desk, plain)
            self.versions_agree(desk, plain)

    def step(self, drawing, desk, plain, batch):
        """One drawn call, compared with the model; the batch that is open behind it."""
        kind = drawing.choice(("do", "do", "do", "would", "promise", "drop", "undo", "open", "put", "put", "put", "end",
                               "cancel"))
        deed, promise = drawn_deed(drawing), drawn_promise(drawing)
        deeds = (deed,) + tuple(drawn_deed(drawing) for _ in range(drawing.randrange(3)))
        if kind == "would":
            wanted = plain.would(deeds)
            if wanted[:1] == ("deed",):
                self.refused(Refused(wanted), desk.would, deeds)
            else:
                self.same(desk.would(deeds), wanted)
        elif batch is not None and kind in ("put", "end", "cancel"):
            if kind == "put":
                self.answers(plain.put(deed), batch.put, deed)
                self.assertTrue(batch.row == row_of(plain.gathered[0]))
                return batch
            self.answers(plain.end() if kind == "end" else plain.cancel(), batch.end if kind == "end" else batch.drop)
            return None
        elif batch is not None and kind != "would":
            for action in (lambda: desk.do(deeds), lambda: desk.promise(promise), lambda: desk.drop(promise), desk.batch):
                self.refused(InvalidOperation, action)
        elif kind in ("do", "put", "end", "cancel"):
            self.answers(plain.do(deeds), desk.do, deeds)
        elif kind == "promise":
            wanted = plain.promise(promise)
            if wanted == "many":
                self.refused(TooMany(8), desk.promise, promise)
            else:
                self.answers(wanted, desk.promise, promise)
        elif kind == "drop":
            told = drawing.choice(plain.now()[1]) if plain.now()[1] and drawing.random() < 0.7 else promise
            wanted = plain.drop(told)
            if wanted == "missing":
                self.refused(UnknownName(told), desk.drop, told)
            else:
                self.same(desk.drop(told), wanted)
        elif kind == "undo":
            count = drawing.choice((1, 1, 1, 2, 3, 200))
            wanted = plain.undo(count)
            if wanted == "nothing":
                self.refused(NothingToUndo(count), desk.undo, count)
            else:
                self.same(desk.undo(count), wanted)
        elif kind == "open":
            plain.open()
            return desk.batch()
        return batch

    def versions_agree(self, desk, plain):
        """Each version of the desk is a state of the model."""
        for version, (members, promises) in enumerate(plain.states):
            made = desk.at(version)
            self.same((made.row == row_of(members), made.promises, made.version), (True, promises, 0))


class NothingShared(Case):

    def test_new_desks_share_nothing(self):
        desk = Desk(MIDDLE)
        made = desk.at(0)
        made.do((DEED,))
        made.promise(("height", -1))
        self.same((desk.version, str(desk.row), len(desk)), (0, "quotient 2/1 1", 0))
        with made.batch() as batch:
            self.same((desk.do((("times", 2),)), batch.is_open), (1, True))
        self.same(str(MIDDLE), "quotient 2/1 1")

    def test_they_refuse(self):
        self.refused(InvalidRow, Desk, None)
        self.refused(InvalidRow, Desk, Desk(BROKEN))
