"""The checker of papers that show how many books have a pattern."""

from throwshelves.countsteps import can_part, can_turn, exchanged, turned_by
from throwshelves.errors import InvalidPaper
from throwshelves.forms import is_form
from throwshelves.insertions import taken_out
from throwshelves.kinds import is_place
from throwshelves.polynomials import parted
from throwshelves.swaps import swap_at

# How many elements there are behind each word.
FORMS = (("one", 0), ("rest", 2), ("full", 2), ("turned", 2), ("both", 3))


def are_turns(pattern, thing):
    """Whether the value is a nonempty tuple of places that can change places with the next ones, one after another."""
    if len(pattern) == 1 or not isinstance(thing, tuple) or not thing:
        return False
    for i in thing:
        if not is_place(len(pattern), i) or not can_turn(pattern, i):
            return False
        pattern = exchanged(pattern, i)
    return True


def is_told_place(pattern, word, thing):
    """Whether the value is a place, or places, as they stand behind this word in a count paper of the pattern."""
    size = len(pattern)
    if word == "turned":
        return are_turns(pattern, thing)
    if size == 1 or not is_place(size, thing):
        return False
    if word == "both":
        return can_part(pattern, thing)
    return pattern[thing] == (0 if word == "rest" else size)


def paper_fault(pattern, paper):
    """The word for what bars the paper, but for those in it; None, if nothing does."""
    if not is_form(FORMS, paper):
        return "form"
    word = paper[0]
    if word == "one":
        return None if len(pattern) == 1 else "size"
    if not is_told_place(pattern, word, paper[1]):
        return "place"
    if word == "both" and (paper[3] is None) != (exchanged(pattern, paper[1]) is None):
        return "second"
    return None


def lets_count(pattern, thing):
    """The polynomial that any value tells as a count paper of the pattern; InvalidPaper for the first that bars it."""
    return polynomial_told(pattern, thing, ())


def polynomial_told(pattern, paper, at):
    """The polynomial that the paper tells, which is reached from the whole by at."""
    fault = paper_fault(pattern, paper)
    if fault is not None:
        raise InvalidPaper(fault, at)
    word = paper[0]
    if word == "one":
        return (1,)
    if word == "turned":
        return polynomial_told(turned_by(pattern, paper[1]), paper[2], at + (0,))
    if word == "both":
        return polynomial_parted(pattern, paper, at)
    return polynomial_told(taken_out(pattern, paper[1]), paper[2], at + (0,))


def polynomial_parted(pattern, paper, at):
    """The polynomial that a paper with two in it tells."""
    _, i, first, second = paper
    told = polynomial_told(swap_at(pattern, i, i + 1), first, at + (0,))
    other = exchanged(pattern, i)
    if other is None:
        return parted(told, ())
    return parted(told, polynomial_told(other, second, at + (1,)))
