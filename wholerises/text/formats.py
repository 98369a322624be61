"""Texts of rows, of rising rows and of stairs, written and read back."""

from wholerises.base.numbers import is_integer
from wholerises.base.ratios import is_ratio
from wholerises.errors import InvalidOperation, ParseError
from wholerises.rise.risings import Rising, check_rising
from wholerises.row.quotients import Quotient, check_row

MAX_STAIRS = 1000
MAX_DIGITS = 60
DIGITS = "0123456789"
# Python itself refuses to write integers of some thousands of digits, so they are written in pieces.
PIECE = 10 ** 60


def integer_text(number):
    """An integer of any size as a signed integer."""
    if number < 0:
        return "-" + integer_text(-number)
    pieces = []
    left = number
    while left >= PIECE:
        pieces.append(str(left % PIECE).zfill(MAX_DIGITS))
        left = left // PIECE
    return str(left) + "".join(pieces[::-1])


def ratio_text(ratio):
    """A ratio of integers of any size as a text."""
    return f"{integer_text(ratio[0])}/{integer_text(ratio[1])}"


def side_text(members):
    """The members of one side as a text."""
    return ",".join([str(member) for member in members]) if members else "-"


def row_text(row):
    """The text of what surely is a row."""
    return f"{side_text(row.tops)}/{side_text(row.bottoms)}"


def write_row(row):
    """The text of a row."""
    check_row(row)
    return row_text(row)


def places_text(places):
    """Places as a text."""
    return ",".join([ratio_text(place) for place in places])


def write_rising(rising):
    """The text of a rising row."""
    check_rising(rising)
    return f"{places_text(rising.tops)};{places_text(rising.bottoms)}"


def is_pair(value):
    """Whether the value is a pair of a ratio and an integer."""
    return isinstance(value, tuple) and len(value) == 2 and is_ratio(value[0]) and is_integer(value[1])


def check_pairs(stairs):
    """Raises InvalidOperation unless a tuple of pairs is given that has a text."""
    if not isinstance(stairs, tuple) or not 1 <= len(stairs) <= MAX_STAIRS:
        raise InvalidOperation("no tuple of 1 to 1000 pairs")
    if not all([is_pair(item) for item in stairs]):
        raise InvalidOperation("no pair of a ratio and an integer")
    for before, behind in zip(stairs, stairs[1:]):
        if before[0][0] * behind[0][1] >= behind[0][0] * before[0][1]:
            raise InvalidOperation("the ratios do not ascend")


def write_stairs(stairs):
    """The text of stairs."""
    check_pairs(stairs)
    return stairs_text(stairs)


def stairs_text(stairs):
    """The text of what surely are such pairs, however many."""
    return ",".join([f"{ratio_text(start)}:{integer_text(height)}" for start, height in stairs])


def is_at(text, at, signs):
    """Whether there is a character at the index that is one of the signs."""
    return at < len(text) and text[at] in signs


def behind_sign(text, at, sign):
    """The index behind a sign that must stand at the index."""
    if not is_at(text, at, sign):
        raise ParseError(at)
    return at + 1


def plain_end(text, at, digits=DIGITS):
    """The index behind a plain integer from the index on that begins with one of the digits."""
    if not is_at(text, at, digits):
        raise ParseError(at)
    if text[at] == "0":
        return at + 1
    end = at + 1
    while end < at + MAX_DIGITS and is_at(text, end, DIGITS):
        end = end + 1
    return end


def signed_end(text, at):
    """The index behind a signed integer from the index on."""
    return plain_end(text, at + 1, DIGITS[1:]) if is_at(text, at, "-") else plain_end(text, at)


def side_at(text, at):
    """The pair of the tuple of the members of a side from the index on, and of the index behind it."""
    if is_at(text, at, "-"):
        return (), at + 1
    members = []
    begin = at
    end = plain_end(text, begin)
    members.append(int(text[begin:end]))
    while is_at(text, end, ","):
        begin = end + 1
        end = plain_end(text, begin)
        members.append(int(text[begin:end]))
    return tuple(members), end


def ratio_at(text, at):
    """The pair of a ratio text from the index on, a pair that need not be a ratio, and of the index behind it."""
    middle = signed_end(text, at)
    begin = behind_sign(text, middle, "/")
    end = plain_end(text, begin)
    return (int(text[at:middle]), int(text[begin:end])), end


def places_at(text, at):
    """The pair of the tuple of ratio texts from the index on, and of the index behind them."""
    place, end = ratio_at(text, at)
    places = [place]
    while is_at(text, end, ","):
        place, end = ratio_at(text, end + 1)
        places.append(place)
    return tuple(places), end


def stair_at(text, at):
    """The pair of a pair of a stair text from the index on, and of the index behind it."""
    start, end = ratio_at(text, at)
    begin = behind_sign(text, end, ":")
    end = signed_end(text, begin)
    return (start, int(text[begin:end])), end


def check_text(text):
    """Raises ParseError(0) unless a string is given."""
    if not isinstance(text, str):
        raise ParseError(0)


def check_end(text, end):
    """Raises ParseError unless the text ends at the index."""
    if end < len(text):
        raise ParseError(end)


def sides_of_text(text):
    """The pair of the tops and the bottoms that a string tells; it need not tell a row."""
    tops, end = side_at(text, 0)
    bottoms, end = side_at(text, behind_sign(text, end, "/"))
    check_end(text, end)
    return tops, bottoms


def ratio_of_text(text):
    """The pair that a string tells; it need not be a ratio."""
    ratio, end = ratio_at(text, 0)
    check_end(text, end)
    return ratio


def read_row(text):
    """The row of a text."""
    check_text(text)
    tops, bottoms = sides_of_text(text)
    return Quotient(tops, bottoms)


def read_rising(text):
    """The rising row of a text."""
    check_text(text)
    tops, end = places_at(text, 0)
    bottoms, end = places_at(text, behind_sign(text, end, ";"))
    check_end(text, end)
    return Rising(tops, bottoms)


def read_stairs(text):
    """The tuple of the pairs of a text."""
    check_text(text)
    pair, end = stair_at(text, 0)
    pairs = [pair]
    while is_at(text, end, ","):
        pair, end = stair_at(text, end + 1)
        pairs.append(pair)
    check_end(text, end)
    stairs = tuple(pairs)
    check_pairs(stairs)
    return stairs
