"""The errors of the package."""


def kept(value):
    """The value, its lists and dicts copied, so that an error shares no state with what it was made of."""
    if isinstance(value, list):
        return [kept(item) for item in value]
    if isinstance(value, tuple):
        return tuple([kept(item) for item in value])
    if isinstance(value, dict):
        return {key: kept(value[key]) for key in value}
    return value


class RowError(ValueError):
    """A value that is not of the form that is wanted."""


class InvalidRow(RowError):
    """No quotient row."""


class InvalidRising(RowError):
    """No rising row."""


class InvalidForms(RowError):
    """No forms in two letters."""


class InvalidPolynomial(RowError):
    """No polynomial."""


class InvalidTable(RowError):
    """No table."""


class InvalidRatio(RowError):
    """No ratio."""


class InvalidSeries(RowError):
    """No series."""


class InvalidEquation(RowError):
    """No polynomial in two letters."""


class InvalidPromise(RowError):
    """No promise."""


class InvalidOperation(RowError):
    """What is asked for cannot be done with these values."""


class ParseError(RowError):
    """A text that cannot be read: `index` tells where."""

    def __init__(self, index):
        super().__init__("the text cannot be read")
        self.index = kept(index)


class InvalidNumber(IndexError):
    """A number that is not let: `given`."""

    def __init__(self, given):
        super().__init__("no number that is let")
        self.given = kept(given)


class UnknownName(KeyError):
    """A name that is not known: `wanted`."""

    def __init__(self, wanted):
        super().__init__("an unknown name")
        self.wanted = kept(wanted)


class TooMany(OverflowError):
    """More than are let, which is `most`."""

    def __init__(self, most):
        super().__init__("more than are let")
        self.most = kept(most)


class Refused(ArithmeticError):
    """What is refused: `reason` tells why."""

    def __init__(self, reason):
        super().__init__("refused")
        self.reason = kept(reason)


class NothingToUndo(LookupError):
    """More steps back than there are: `steps`."""

    def __init__(self, steps):
        super().__init__("nothing to undo")
        self.steps = kept(steps)
