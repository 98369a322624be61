"""A shell: a desk that is told what to do by texts."""

from wholerises.desk.desks import Desk, open_batch_of
from wholerises.desk.promises import WORDS, does_hold
from wholerises.errors import InvalidNumber, InvalidOperation, NothingToUndo, ParseError, Refused, RowError, TooMany
from wholerises.errors import UnknownName
from wholerises.row.quotients import Quotient
from wholerises.stair.stairs import depth, stairs
from wholerises.stair.wholes import fault
from wholerises.text.formats import plain_end, ratio_of_text, ratio_text, row_text, sides_of_text, signed_end
from wholerises.text.formats import stairs_text

MOST_SAID = 2000
MOST_DIGITS = 9
# What stands behind the first piece: N a plain integer, X a ratio text, R a row text, P a promise.
FORMS = {
    "top": "N", "bottom": "N", "times": "N", "plus": "R", "divided": "", "exchanged": "", "open": "", "end": "",
    "cancel": "", "promise": "P", "drop": "P", "undo": "N", "promises": "", "show": "", "stairs": "", "ask": "P",
    "height": "", "excess": "", "depth": "X", "exponent": "NN", "number": "N", "fault": ""}


def is_saying(value):
    """Whether the value is a string that can be said."""
    return isinstance(value, str) and len(value) <= MOST_SAID


def piece_at(pieces, at):
    """The piece with an index, if it is not missing."""
    if at == len(pieces):
        raise ParseError(at)
    return pieces[at]


def integer_piece(pieces, at, is_signed):
    """The integer of at most nine digits that a piece tells."""
    piece = piece_at(pieces, at)
    try:
        end = signed_end(piece, 0) if is_signed else plain_end(piece, 0)
    except ParseError:
        raise ParseError(at) from None
    digits = end - 1 if piece[0] == "-" else end
    if end < len(piece) or digits > MOST_DIGITS:
        raise ParseError(at)
    return int(piece)


def text_piece(pieces, at, form):
    """The sides of a row text, or the pair of a ratio text, that a piece tells; they need not tell a row or a ratio."""
    piece = piece_at(pieces, at)
    try:
        return sides_of_text(piece) if form == "R" else ratio_of_text(piece)
    except ParseError:
        raise ParseError(at) from None


def promise_pieces(pieces, at):
    """The tuple of one or two pieces from an index on that are like a promise; it need not be one."""
    word = piece_at(pieces, at)
    if word in WORDS:
        return (word,)
    if word not in ("height", "depth"):
        raise ParseError(at)
    return (word, integer_piece(pieces, at + 1, True))


def told_by(pieces):
    """The list of the first piece and of what the others tell; ParseError with the index of what cannot stand there."""
    if pieces[0] not in FORMS:
        raise ParseError(0)
    # How many steps go back need not be told.
    forms = "" if pieces == ["undo"] else FORMS[pieces[0]]
    told = [pieces[0]]
    at = 1
    for form in forms:
        if form == "P":
            told.append(promise_pieces(pieces, at))
            at = at + len(told[-1])
        else:
            told.append(integer_piece(pieces, at, False) if form == "N" else text_piece(pieces, at, form))
            at = at + 1
    if at < len(pieces):
        raise ParseError(at)
    return told


def promise_text(promise):
    """The text of a promise."""
    return " ".join([str(part) for part in promise])


def refusal_text(reason):
    """The answer to a command that was refused for a reason."""
    if reason[0] == "deed":
        return f"refused deed {reason[1]} {reason[2]}"
    return f"refused broken {promise_text(reason[1])}"


def deed_answer(desk, deed):
    """Does a deed, or puts it into the open batch."""
    batch = open_batch_of(desk)
    if batch is None:
        return f"version {desk.do((deed,))}"
    return f"put {batch.put(deed)}"


def say_deed(desk, told):
    """The commands of the deeds but `plus`."""
    return deed_answer(desk, tuple(told))


def say_plus(desk, told):
    """The command `plus`."""
    tops, bottoms = told[1]
    return deed_answer(desk, ("plus", Quotient(tops, bottoms)))


def say_open(desk, told):
    """The command `open`."""
    desk.batch()
    return "open"


def say_end(desk, told):
    """The command `end`."""
    batch = open_batch_of(desk)
    return "no batch" if batch is None else f"version {batch.end()}"


def say_cancel(desk, told):
    """The command `cancel`."""
    batch = open_batch_of(desk)
    if batch is None:
        return "no batch"
    batch.drop()
    return "dropped"


def say_promise(desk, told):
    """The command `promise`."""
    return "new" if desk.promise(told[1]) else "known"


def say_drop(desk, told):
    """The command `drop`."""
    return f"version {desk.drop(told[1])}"


def say_undo(desk, told):
    """The command `undo`."""
    count = told[1] if len(told) > 1 else 1
    return f"version {desk.undo(count)}"


def say_promises(desk, told):
    """The question `promises`."""
    return ", ".join([promise_text(promise) for promise in desk.promises]) if desk.promises else "none"


def row_asked(desk):
    """The row that questions are about."""
    batch = open_batch_of(desk)
    return desk.row if batch is None else batch.row


def say_show(desk, told):
    """The question `show`."""
    return row_text(row_asked(desk))


def say_stairs(desk, told):
    """The question `stairs`."""
    return stairs_text(stairs(row_asked(desk)))


def say_ask(desk, told):
    """The question `ask`."""
    return "yes" if does_hold(row_asked(desk), told[1]) else "no"


def say_height(desk, told):
    """The question `height`."""
    return str(row_asked(desk).height)


def say_excess(desk, told):
    """The question `excess`."""
    return str(row_asked(desk).excess)


def say_depth(desk, told):
    """The question `depth`."""
    return str(depth(row_asked(desk), told[1]))


def say_exponent(desk, told):
    """The question `exponent`."""
    return str(row_asked(desk).exponent(told[1], told[2]))


def say_number(desk, told):
    """The question `number`."""
    return ratio_text(row_asked(desk).value(told[1]))


def say_fault(desk, told):
    """The question `fault`."""
    reason = fault(row_asked(desk))
    if reason is None:
        return "none"
    if reason[0] == "excess":
        return f"excess {reason[1]}"
    return f"stair {ratio_text(reason[1])} {ratio_text(reason[2])} {reason[3]}"


ACTIONS = {
    "top": say_deed, "bottom": say_deed, "times": say_deed, "plus": say_plus, "divided": say_deed,
    "exchanged": say_deed, "open": say_open, "end": say_end, "cancel": say_cancel, "promise": say_promise,
    "drop": say_drop, "undo": say_undo, "promises": say_promises, "show": say_show, "stairs": say_stairs,
    "ask": say_ask, "height": say_height, "excess": say_excess, "depth": say_depth, "exponent": say_exponent,
    "number": say_number, "fault": say_fault}


def answer_to(desk, text):
    """The answer of a command, for what surely is a string that can be said."""
    if text == "":
        return ""
    pieces = text.split(" ")
    try:
        told = told_by(pieces)
    except ParseError as e:
        return f"wrong at {e.index}"
    return answer_of(desk, told)


def answer_of(desk, told):
    """The answer of a command with all its pieces."""
    action = ACTIONS[told[0]]
    try:
        return action(desk, told)
    except Refused as e:
        return refusal_text(e.reason)
    except NothingToUndo:
        return "nothing to undo"
    except UnknownName:
        return "missing"
    except (RowError, InvalidNumber, TooMany):
        return "invalid"


class Shell:
    """A desk that is told what to do by texts."""

    def __init__(self, row):
        self._desk = Desk(row)
        # As many members as commands were said.
        self._said = []

    @property
    def desk(self):
        """The desk of the shell."""
        return self._desk

    def say(self, text):
        """The answer of one command."""
        if not is_saying(text):
            raise InvalidOperation("no string of at most 2000 characters")
        self._said.append(True)
        return answer_to(self._desk, text)

    def run(self, texts):
        """Says the texts one after the other, and yields the answers."""
        if not isinstance(texts, tuple) or not all([is_saying(text) for text in texts]):
            raise InvalidOperation("no tuple of strings of at most 2000 characters")
        for text in texts:
            yield self.say(text)

    def __len__(self):
        return len(self._said)

    def __str__(self):
        return f"shell of {row_text(self._desk.row)}, version {self._desk.version}"
