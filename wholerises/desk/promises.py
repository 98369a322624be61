"""Promises about rows, and papers against those that do not hold."""

from wholerises.base.numbers import is_between, is_integer, is_long_integer
from wholerises.base.ratios import is_long_ratio
from wholerises.errors import InvalidPromise
from wholerises.row.quotients import check_row
from wholerises.stair.stairs import depth_at, least_depth, stairs
from wholerises.stair.wholes import is_algebraic_row, is_whole, late_zero

WORDS = ("whole", "balanced", "algebraic", "digits")
MAX_HEIGHT = 8
# What each of these promises says is what the others say together.
ALGEBRAIC = (("balanced",), ("whole",), ("height", 1))
DIGITS = (("balanced",), ("whole",))


def is_promise(value):
    """Whether the value is a promise."""
    if not isinstance(value, tuple) or not 1 <= len(value) <= 2 or not isinstance(value[0], str):
        return False
    if len(value) == 1:
        return value[0] in WORDS
    if value[0] == "height":
        return is_between(value[1], -MAX_HEIGHT, MAX_HEIGHT)
    return value[0] == "depth" and is_integer(value[1])


def check_promise(promise):
    """Raises InvalidPromise unless a promise is given."""
    if not is_promise(promise):
        raise InvalidPromise("no promise")


def does_hold(row, promise):
    """Whether the promise holds for the row."""
    check_row(row)
    check_promise(promise)
    return holds(row, promise)


def holds(row, promise):
    """Whether what is surely a promise holds."""
    name = promise[0]
    if name == "balanced":
        return row.is_balanced
    if name == "height":
        return row.height == promise[1]
    if name == "whole":
        return is_whole(row)
    if name == "depth":
        return row.excess >= 0 and least_depth(row) >= promise[1]
    if name == "algebraic":
        return is_algebraic_row(row)
    return row.is_balanced and is_whole(row) and late_zero(row) is None


def paper_against(row, promise):
    """A paper against the promise, or None if it holds."""
    check_row(row)
    check_promise(promise)
    return paper_of(row, promise)


def paper_of(row, promise):
    """A paper against what is surely a promise, or None."""
    if holds(row, promise):
        return None
    name = promise[0]
    if name == "balanced":
        return ("excess", row.excess)
    if name == "height":
        return ("height", row.height)
    if name in ("whole", "depth"):
        return ("at", low_place(row, low_bound(promise)))
    parts = ALGEBRAIC if name == "algebraic" else DIGITS
    for part in parts:
        paper = paper_of(row, part)
        if paper is not None:
            return paper
    return ("at", late_zero(row))


def low_bound(promise):
    """The integer that no depth is below, as the promise `whole` or `depth` says."""
    return promise[1] if promise[0] == "depth" else 0


def low_place(row, number):
    """A ratio at which the depth is below the number, for a row that has one."""
    for start, height in stairs(row):
        if height < number:
            return start
    # No stair is so low, so the excess is below 0, and so the depth is at an integer.
    return (number // row.excess + 1, 1)


def is_paper_against(row, promise, value):
    """Whether the value is a paper against the promise."""
    check_row(row)
    check_promise(promise)
    if not isinstance(value, tuple) or len(value) != 2 or not isinstance(value[0], str):
        return False
    return is_paper_of(row, promise, value[0], value[1])


def is_paper_of(row, promise, word, told):
    """Whether the word and what is told behind it are a paper against what is surely a promise."""
    name = promise[0]
    if name == "balanced":
        return word == "excess" and is_long_integer(told) and told == row.excess and told != 0
    if name == "height":
        return word == "height" and is_long_integer(told) and told == row.height and told != promise[1]
    if name in ("whole", "depth"):
        return word == "at" and is_depth_below(row, told, low_bound(promise))
    parts = ALGEBRAIC if name == "algebraic" else DIGITS
    if any([is_paper_of(row, part, word, told) for part in parts]):
        return True
    if name == "algebraic" or not all([holds(row, part) for part in DIGITS]):
        return False
    return word == "at" and is_depth_below(row, told, 1) and told[1] <= told[0] * row.greatest and told[0] < told[1]


def is_depth_below(row, value, number):
    """Whether the value is a ratio of at least 0 at which the depth is below the number."""
    return is_long_ratio(value) and value[0] >= 0 and depth_at(row, value) < number
