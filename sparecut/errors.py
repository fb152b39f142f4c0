"""The refusals of the program, each a class of its own."""


class SpareError(ValueError):
    """Any refusal of the program."""


class NoCut(SpareError):
    """Two claims can't be cut by this number."""


class NoLadder(SpareError):
    """A list is no ladder; at is the number of its first row that is none."""

    def __init__(self, at):
        self.at = at


class NoInstead(SpareError):
    """One row can't stand instead of the other."""


class TooGreat(SpareError):
    """A tree would be greater than trees may be."""


class TooMany(SpareError):
    """A book has more claims, or speaks of more things, than can be looked through."""


class NoTelling(SpareError):
    """A list of claims is no telling."""


class NoText(SpareError):
    """A text writes nothing that can be read; at is the number of its first wrong word."""

    def __init__(self, at):
        self.at = at


class NoRow(SpareError):
    """A desk can do nothing with this row."""


class NoBack(SpareError):
    """At a desk there is nothing to go back behind."""
