"""Patterns written as lines, and read from them."""

from throwshelves.errors import InvalidText
from throwshelves.numberlines import numbers_in
from throwshelves.patterns import throws_fault


def pattern_line(pattern):
    """The line of the pattern."""
    numbers = [str(throw) for throw in pattern]
    return " ".join(["throws", *numbers])


def pattern_read(text):
    """The pattern that any string writes."""
    throws = numbers_in(text, "throws")
    fault = throws_fault(throws)
    if fault is not None:
        raise InvalidText(0, faulty_place(fault) + 1)
    return throws


def faulty_place(fault):
    """The place of the throw that a fault of throws tells, the latter one of a clash."""
    word, at = fault
    return at[1] if word == "clash" else at
