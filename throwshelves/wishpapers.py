"""Papers of wishes: a pattern, or what bars all."""

from throwshelves.wishbounds import bar_of, pattern_let
from throwshelves.wishes import demand_wish


def wish_paper(bounds, balls):
    """A pattern within the bounds with so many balls, or a paper that there is none."""
    demand_wish(bounds, balls)
    bar = bar_of(bounds, balls)
    if bar is not None:
        return bar
    return ("throws", pattern_let(bounds, balls))
