"""The places that mend a place, and the chains that balls go."""

from throwshelves.demands import demand
from throwshelves.kinds import is_place
from throwshelves.patterns import round_from, thrown_from
from throwshelves.ringplaces import places_from


def next_ones(pattern, place):
    """The places next to the place, as many as its throw is."""
    size = len(pattern)
    demand(is_place(size, place), "place")
    return places_from(size, place + 1, pattern[place])


def ones_before(pattern, place):
    """The places ahead of the place, from that one on from which the ball is thrown that lands here."""
    source, throw = thrown_from(pattern, place)
    return places_from(len(pattern), source, throw)


def chain_of(pattern, place):
    """The place, that at which its ball lands, and so on, until the place comes again."""
    demand(is_place(len(pattern), place), "place")
    return round_from(pattern, place)
