"""How parameters are refused, and how checkers do not accept a value."""

from throwshelves.errors import InvalidPaper, NotUsable


def demand(holds, name):
    """NotUsable for the parameter of this name, unless it holds that it is as stated."""
    if not holds:
        raise NotUsable(name, -1)


def accept(fault):
    """InvalidPaper for what bars the value, told as a word and an at, unless this is None."""
    if fault is not None:
        word, at = fault
        raise InvalidPaper(word, at)
