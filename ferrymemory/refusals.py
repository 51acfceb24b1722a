"""The refusals of a call, one error class for each, and the faults of a row that lead to them."""


class TooMuch(Exception):
    """Refusal -6: beyond a bound."""


class OutOfRange(Exception):
    """Refusal -1: a number that chooses among few things chooses none of them."""


class WrongRow(Exception):
    """Refusal -5: a row that is not as it was told to be, with the kind of its fault and a place."""

    def __init__(self, kind, place):
        self.kind = kind
        self.place = place


class NoEntry(Exception):
    """Refusal -2: there is no such entry."""


class NotTold(Exception):
    """Refusal -3: that row of the entry is not told."""


class NoText(Exception):
    """The bytes are no row's text: no row's text goes on with the byte at this place."""

    def __init__(self, place):
        self.place = place


class NotStraight(Exception):
    """The row is not straight: the tag at this place is the first with which it is not."""

    def __init__(self, place):
        self.place = place


class UnknownCall(ValueError):
    """The list of calls has a number where no call has it."""
