"""The refusals, one class for each kind, each made with a text."""


class JoinError(ValueError):
    """Any refusal."""


class NoLayout(JoinError):
    """What was handed in is no layout."""


class NoHead(JoinError):
    """What was handed in is no number of a head."""


class NoColumn(JoinError):
    """What was handed in is no column."""


class NoTree(JoinError):
    """What was handed in is no tree of the layout."""


class NoOrder(JoinError):
    """What was handed in is no order of all columns."""


class NoTables(JoinError):
    """What was handed in is no tables of the layout."""


class NoDeed(JoinError):
    """What was handed in is no steps or no deeds."""


class NoNumber(JoinError):
    """What was handed in is none of the whole numbers that are let."""


class NoRow(JoinError):
    """What was handed in is no row."""


class NoText(JoinError):
    """What was handed in is no text that can be read."""


class Bound(JoinError):
    """The layout has no join tree."""


class TooMany(JoinError):
    """The answer would be larger than is let."""
