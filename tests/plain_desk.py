"""A plain model of desks and batches: a list of states, by the definitions [19.3] to [19.5]."""

import random
from math import lcm

from wholerises.row.quotients import Quotient
from tests.support import BROKEN, CHEBYSHEV, FIVE, MIDDLE, TURNED
from tests.test_promises import plain_facts, plain_hold

ROWS = (MIDDLE, BROKEN, TURNED, FIVE, CHEBYSHEV, Quotient((3,), (2, 1)), Quotient((4,), (2, 2)), Quotient((2,), (1,)),
        Quotient((), (1,)), Quotient((60, 7), (42, 5)), Quotient((8, 7), (5, 1)))
FACTS = {}


def row_of(members):
    """The row with such members."""
    return Quotient(tuple(m for m in members for _ in range(members[m])),
                    tuple(m for m in members for _ in range(-members[m])))


def facts_of(members):
    """What is asked of the row with such members; it is kept, as it takes long to find."""
    key = tuple(sorted(members.items()))
    if key not in FACTS:
        FACTS[key] = plain_facts(row_of(members))
    return FACTS[key]


def put(members, other):
    """The members with others put to them."""
    made = dict(members)
    for member, count in other.items():
        made[member] = made.get(member, 0) + count
    return {member: count for member, count in made.items() if count}


def behind(members, deed):
    """The members behind a deed, or the word with which it fails."""
    made = {"top": lambda: put(members, {deed[1]: 1}), "bottom": lambda: put(members, {deed[1]: -1}),
            "plus": lambda: put(members, deed[1].members),
            "times": lambda: {member * deed[1]: count for member, count in members.items()},
            "divided": lambda: row_of(members).divided().members,
            "exchanged": lambda: {member: -count for member, count in members.items()}}[deed[0]]()
    if not made:
        return "empty"
    if sum(max(0, count) for count in made.values()) > 8 or sum(max(0, -count) for count in made.values()) > 8:
        return "many"
    return "great" if max(made) > 60 or lcm(*made) > 2520 else made


def all_behind(members, deeds):
    """The members behind all deeds, or the index of the first one that fails and its word."""
    for index, deed in enumerate(deeds):
        made = behind(members, deed)
        if isinstance(made, str):
            return (index, made)
        members = made
    return members


class PlainDesk:
    """The states of all versions: pairs of members and of promises."""

    def __init__(self, row):
        self.states = [(row.members, ())]
        self.gathered = None

    def now(self):
        """The state."""
        return self.states[-1]

    def row(self):
        """The row that questions are about."""
        return row_of(self.now()[0] if self.gathered is None else self.gathered[0])

    def version(self):
        """The version."""
        return len(self.states) - 1

    def broken(self, members):
        """The promises that do not hold for members."""
        facts = facts_of(members)
        return [promise for promise in self.now()[1] if not plain_hold(facts, promise)]

    def settle(self, made):
        """What doing deeds answers, with these members behind them."""
        if isinstance(made, tuple):
            return ("deed",) + made
        broken = self.broken(made)
        if broken:
            return ("broken", broken[0])
        if made != self.now()[0]:
            self.states.append((made, self.now()[1]))
        return self.version()

    def do(self, deeds):
        """Does deeds."""
        return self.settle(all_behind(self.now()[0], deeds))

    def would(self, deeds):
        """The promises that would not hold."""
        made = all_behind(self.now()[0], deeds)
        return ("deed",) + made if isinstance(made, tuple) else tuple(self.broken(made))

    def promise(self, promise):
        """Makes a promise."""
        if not plain_hold(facts_of(self.now()[0]), promise):
            return ("broken", promise)
        if promise in self.now()[1]:
            return False
        if len(self.now()[1]) == 8:
            return "many"
        self.states.append((self.now()[0], self.now()[1] + (promise,)))
        return True

    def drop(self, promise):
        """Takes a promise out."""
        if promise not in self.now()[1]:
            return "missing"
        self.states.append((self.now()[0], tuple(one for one in self.now()[1] if one != promise)))
        return self.version()

    def undo(self, count):
        """Goes back."""
        if count > self.version():
            return "nothing"
        del self.states[len(self.states) - count:]
        return self.version()

    def open(self):
        """Opens a batch."""
        self.gathered = (self.now()[0], 0)

    def put(self, deed):
        """Puts a deed into the batch."""
        members, many = self.gathered
        made = behind(members, deed)
        if isinstance(made, str):
            return ("deed", many, made)
        self.gathered = (made, many + 1)
        return many + 1

    def end(self):
        """Ends the batch."""
        members, _ = self.gathered
        self.gathered = None
        return self.settle(members)

    def cancel(self):
        """Drops the batch."""
        self.gathered = None


def drawn_deed(drawing):
    """A deed, most often one that leaves a small row."""
    kind = drawing.choice(("top", "bottom", "top", "bottom", "plus", "times", "divided", "exchanged"))
    if kind in ("divided", "exchanged"):
        return (kind,)
    if kind == "plus":
        return (kind, drawing.choice(ROWS))
    if kind == "times":
        return (kind, drawing.choice((1, 1, 2, 3, 5, 60)))
    return (kind, drawing.choice((1, 1, 2, 2, 3, 4, 5, 6, 8, 12, 30, 49, 60)))


def drawn_promise(drawing):
    """A promise."""
    kind = drawing.choice(("whole", "balanced", "algebraic", "digits", "height", "depth"))
    if kind == "height":
        return (kind, drawing.randint(-3, 3))
    return (kind, drawing.randint(-6, 1)) if kind == "depth" else (kind,)


def drawing_of(seed):
    """A source of drawn values, the same one in each run."""
    return random.Random(seed)
