"""Patterns of rings with a shelf more, and with one fewer."""

from throwshelves.demands import demand
from throwshelves.errors import Barred
from throwshelves.insertions import put_in, taken_out
from throwshelves.kinds import is_number, is_place
from throwshelves.patterns import thrown_from
from throwshelves.swaps import is_close, swap_at


def demand_gap(size, place):
    """Refuses what is no number up to the size, at which a shelf more can stand."""
    demand(is_number(place) and place <= size, "place")


def with_rest(pattern, place):
    """The pattern with a shelf more at the place, that throws 0."""
    demand_gap(len(pattern), place)
    return put_in(pattern, place, 0)


def with_full(pattern, place):
    """The pattern with a shelf more at the place, that throws all the way round."""
    demand_gap(len(pattern), place)
    return put_in(pattern, place, len(pattern) + 1)


def doubled(pattern, place):
    """The pattern with a shelf more behind the place, that is like that of the place."""
    demand(is_place(len(pattern), place), "place")
    throw = pattern[place]
    if throw == 0:
        return put_in(pattern, place + 1, 0)
    longer = put_in(pattern, place + 1, throw)
    return longer[:place] + (1,) + longer[place + 1:]


def throws_without(pattern, place):
    """The pattern without the shelf at what is certainly a place; None, if the pattern does not tell it."""
    size = len(pattern)
    if size == 1:
        return None
    if pattern[place] in (0, size):
        return taken_out(pattern, place)
    source, throw = thrown_from(pattern, place)
    # When the ball that lands here goes on to where this shelf throws, this shelf throws 0.
    idle = swap_at(pattern, source, source + throw)
    if idle is None or not is_close(pattern, source, source + throw):
        return None
    return taken_out(idle, place)


def without(pattern, place):
    """The pattern without the shelf at the place."""
    demand(is_place(len(pattern), place), "place")
    throws = throws_without(pattern, place)
    if throws is None:
        raise Barred((place, 1))
    return throws
