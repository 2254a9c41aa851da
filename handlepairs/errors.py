"""The errors that the package raises."""


class NoCorner(LookupError):
    """The skin has no corner of this number."""

    def __init__(self, corner):
        self.corner = corner


class NoEdge(LookupError):
    """The skin has no edge of this number."""

    def __init__(self, edge):
        self.edge = edge


class NoField(LookupError):
    """The skin, or the table, has no field of this number."""

    def __init__(self, field):
        self.field = field


class NothingDone(LookupError):
    """There is nothing to take back, or to do once more."""


class BadText(ValueError):
    """The text has a fault in this line, lines numbered from 0."""

    def __init__(self, line):
        self.line = line


class CanNot(ValueError):
    """What is asked for is not there."""


class Odd(ValueError):
    """The skin has oddly many fields."""


class TooMany(ValueError):
    """There is too much to go through."""


class Unfit(ValueError):
    """An argument is not what it must be."""


class Unpaired(ValueError):
    """The skin has no pairing."""
