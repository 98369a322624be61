"""Desks: rows that are changed by deeds, and the promises about them that are kept."""

from wholerises.base.numbers import MAX_INTEGER, check_number, is_between
from wholerises.desk.promises import check_promise, holds, is_promise, paper_of
from wholerises.errors import InvalidOperation, NothingToUndo, Refused, TooMany, UnknownName
from wholerises.row.quotients import MAX_MEMBER, MAX_SIDE, Quotient, check_row, counted, does_tell_row, row_of_members

MAX_PROMISES = 8
MAX_DEEDS = 20


def is_deed(value):
    """Whether the value is a deed."""
    if not isinstance(value, tuple) or not 1 <= len(value) <= 2 or not isinstance(value[0], str):
        return False
    if len(value) == 1:
        return value[0] in ("divided", "exchanged")
    if value[0] == "plus":
        return isinstance(value[1], Quotient)
    return value[0] in ("top", "bottom", "times") and is_between(value[1], 1, MAX_MEMBER)


def counts_behind(row, deed):
    """The members behind what surely is a deed, counted as by the property of a row; they need not tell a row."""
    name = deed[0]
    if name == "divided":
        return row.divided().members
    if name == "exchanged":
        return row.exchanged().members
    if name == "top":
        return counted(row.tops + (deed[1],), row.bottoms)
    if name == "bottom":
        return counted(row.tops, row.bottoms + (deed[1],))
    if name == "plus":
        return counted(row.tops + deed[1].tops, row.bottoms + deed[1].bottoms)
    return {member * deed[1]: count for member, count in row}


def failing_word(counts):
    """Why counted members tell no row, or None if they tell one."""
    if not counts:
        return "empty"
    tops = sum([count for count in counts.values() if count > 0])
    bottoms = sum([-count for count in counts.values() if count < 0])
    if max(tops, bottoms) > MAX_SIDE:
        return "many"
    return None if does_tell_row(counts) else "great"


def row_behind(row, deed, index):
    """The row behind what surely is a deed; it is refused with its index if it fails."""
    counts = counts_behind(row, deed)
    word = failing_word(counts)
    if word is not None:
        raise Refused(("deed", index, word))
    return row_of_members(counts)


def row_behind_all(row, deeds):
    """The row behind deeds; they are refused unless they are a tuple of so many deeds, none of which fails."""
    if not isinstance(deeds, tuple) or not 1 <= len(deeds) <= MAX_DEEDS or not all([is_deed(deed) for deed in deeds]):
        raise InvalidOperation("no tuple of 1 to 20 deeds")
    made = row
    for index, deed in enumerate(deeds):
        made = row_behind(made, deed, index)
    return made


class Desk:
    """A row and promises about it, all of which hold."""

    def __init__(self, row):
        check_row(row)
        self._row = row
        self._promises = ()
        # The pairs of the rows and the promises of all versions ahead of this one.
        self._past = []
        self._batch_made = None

    @property
    def row(self):
        """The row."""
        return self._row

    @property
    def promises(self):
        """The tuple of the promises, in the order in which they were made."""
        return self._promises

    @property
    def version(self):
        """How many changes led here."""
        return len(self._past)

    def do(self, deeds):
        """Does deeds in their order, and returns the version."""
        self._check_free()
        return self._settle(row_behind_all(self._row, deeds))

    def would(self, deeds):
        """The tuple of the promises that do not hold behind the deeds."""
        row = row_behind_all(self._row, deeds)
        return tuple([promise for promise in self._promises if not holds(row, promise)])

    def promise(self, promise):
        """Puts a promise behind the others, and returns whether it is new."""
        self._check_free()
        check_promise(promise)
        check_holds(self._row, promise)
        if promise in self._promises:
            return False
        if len(self._promises) >= MAX_PROMISES:
            raise TooMany(MAX_PROMISES)
        self._change(self._row, self._promises + (promise,))
        return True

    def drop(self, promise):
        """Takes a promise out, and returns the version."""
        self._check_free()
        check_promise(promise)
        if promise not in self._promises:
            raise UnknownName(promise)
        self._change(self._row, tuple([other for other in self._promises if other != promise]))
        return len(self._past)

    def undo(self, count=1):
        """Goes so many versions back for good, and returns the version."""
        self._check_free()
        check_number(count, 1, MAX_INTEGER)
        if count > len(self._past):
            raise NothingToUndo(count)
        left = len(self._past) - count
        self._row, self._promises = self._past[left]
        del self._past[left:]
        return left

    def at(self, version):
        """A new desk with the row and the promises of a version."""
        check_number(version, 0, len(self._past))
        if version == len(self._past):
            row, promises = self._row, self._promises
        else:
            row, promises = self._past[version]
        made = Desk(row)
        made._promises = promises
        return made

    def batch(self):
        """A new batch, which is open."""
        self._check_free()
        made = Batch(self)
        self._batch_made = made
        return made

    def _check_free(self):
        """Raises InvalidOperation while a batch is open."""
        if open_batch_of(self) is not None:
            raise InvalidOperation("a batch is open")

    def _settle(self, row):
        """Takes another row unless a promise does not hold for it, and returns the version."""
        for promise in self._promises:
            check_holds(row, promise)
        if row != self._row:
            self._change(row, self._promises)
        return len(self._past)

    def _change(self, row, promises):
        """Makes the next version."""
        self._past.append((self._row, self._promises))
        self._row = row
        self._promises = promises

    def __eq__(self, other):
        return isinstance(other, Desk) and self._row == other._row and self._promises == other._promises

    def __len__(self):
        return len(self._promises)

    def __iter__(self):
        return iter(self._promises)

    def __contains__(self, x):
        return is_promise(x) and x in self._promises

    def __str__(self):
        return f"desk of {self._row}, {len(self._promises)} promises"


def open_batch_of(desk):
    """The batch of a desk that is open, or None."""
    made = desk._batch_made
    return made if made is not None and made.is_open else None


def check_holds(row, promise):
    """Raises Refused unless what is surely a promise holds."""
    paper = paper_of(row, promise)
    if paper is not None:
        raise Refused(("broken", promise, paper))


class Batch:
    """Deeds that are gathered, to be done at once. Only desks make batches."""

    def __init__(self, desk):
        self._desk = desk
        self._row = desk.row
        self._many = 0
        self._is_live = True

    @property
    def row(self):
        """The row behind the deeds."""
        return self._row

    @property
    def is_open(self):
        """Whether the batch is open."""
        return self._is_live

    def put(self, deed):
        """Takes a further deed, and returns how many there are then."""
        self._check_open()
        if not is_deed(deed):
            raise InvalidOperation("no deed")
        self._row = row_behind(self._row, deed, self._many)
        self._many = self._many + 1
        return self._many

    def end(self):
        """Closes the batch, does its deeds, and returns the version."""
        self._check_open()
        self._is_live = False
        return self._desk._settle(self._row)

    def drop(self):
        """Closes the batch without its deeds."""
        self._check_open()
        self._is_live = False

    def _check_open(self):
        """Raises InvalidOperation if the batch is closed."""
        if not self._is_live:
            raise InvalidOperation("the batch is closed")

    def __enter__(self):
        self._check_open()
        return self

    def __exit__(self, kind, value, trace):
        self._is_live = False
