"""Papers that one pattern lies below another one, or does not, and what bars one."""

from throwshelves.demands import accept, demand
from throwshelves.forms import is_form
from throwshelves.kinds import is_integer, is_place, is_stretch
from throwshelves.order import chain_between, is_match, stretch_between
from throwshelves.ranktables import rank_in
from throwshelves.swaps import is_falling, swap_at

# How many elements there are behind each word.
FORMS = (("swaps", 1), ("stretch", 1))


def order_paper(one, other):
    """The swaps from the other pattern to the one below it, or the stretch that bars that it lies there."""
    demand(is_match(one, other), "other")
    stretch = stretch_between(one, other)
    if stretch is None:
        return ("swaps", chain_between(one, other))
    return ("stretch", stretch)


def is_pair(size, thing):
    """Whether the value is a pair of a place and an integer above it, less than the size above it."""
    if not isinstance(thing, tuple) or len(thing) != 2:
        return False
    i, j = thing
    return is_place(size, i) and is_integer(j) and i < j < i + size


def swaps_fault(one, other, pairs):
    """What bars the pairs as lowering swaps from the other pattern to the one: a word and an at; or None."""
    pattern = other
    for k, pair in enumerate(pairs):
        if not is_pair(len(pattern), pair):
            return ("pair", k)
        i, j = pair
        lower = swap_at(pattern, i, j)
        if lower is None or is_falling(pattern, i, j):
            return ("swap", k)
        pattern = lower
    return None if pattern == one else ("end", -1)


def stretch_fault(one, other, thing):
    """What bars the value as a stretch whose rank is greater in the one pattern: a word and an at; or None."""
    if not is_stretch(len(one), thing):
        return ("stretch", -1)
    start, length = thing
    return None if rank_in(one, start, length) > rank_in(other, start, length) else ("rank", -1)


def order_fault(one, other, thing):
    """What bars any value as a paper of the order, as a checker tells it: a word and an at; or None."""
    if not is_form(FORMS, thing):
        return ("shape", -1)
    word, told = thing
    if word == "stretch":
        return stretch_fault(one, other, told)
    return swaps_fault(one, other, told) if isinstance(told, tuple) else ("shape", -1)


def lets_below(one, other, thing):
    """Whether any value that is a paper of the order shows that the one lies below; InvalidPaper for what bars it."""
    demand(is_match(one, other), "other")
    accept(order_fault(one, other, thing))
    return thing[0] == "swaps"
