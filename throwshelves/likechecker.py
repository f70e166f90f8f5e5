"""The checker of papers that two books are alike."""

from throwshelves.bookpatterns import pattern_of
from throwshelves.books import is_like
from throwshelves.demands import accept, demand
from throwshelves.forms import is_form
from throwshelves.kinds import are_factors, is_place
from throwshelves.likebooks import moved_book
from throwshelves.turns import scaled_book


def like_fault(one, other, thing):
    """What bars any value as a paper that both books are alike, as a checker tells it: a word and an at; or None."""
    if not is_form((("like", 3),), thing) or thing[1] not in ("turned", "mirrored"):
        return ("shape", -1)
    _, word, k, digits = thing
    prime, size, _ = one
    if not is_place(size, k):
        return ("k", -1)
    if not are_factors(prime, size, digits):
        return ("digits", -1)
    return None if scaled_book(moved_book(one, word, k), digits) == other else ("book", -1)


def lets_like(one, other, thing):
    """The pattern of the other book, if any value is a paper that both are alike; InvalidPaper for what bars it."""
    demand(is_like(one, other), "other")
    accept(like_fault(one, other, thing))
    return pattern_of(other)
