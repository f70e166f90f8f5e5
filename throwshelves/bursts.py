"""Digits that are lost together on a stretch: what a pattern tells of them."""

from throwshelves.demands import demand
from throwshelves.kinds import is_stretch
from throwshelves.patterns import balls_of
from throwshelves.ranktables import rank_in


def rank_beside(pattern, stretch):
    """The rank of all places but those of the stretch."""
    size = len(pattern)
    start, length = stretch
    return rank_in(pattern, (start + length) % size, size - length)


def open_rank(pattern, stretch):
    """How much stays open if the stretch is lost."""
    demand(is_stretch(len(pattern), stretch), "stretch")
    return balls_of(pattern) - rank_beside(pattern, stretch)


def mends_burst(pattern, stretch):
    """Whether the other digits tell each word."""
    demand(is_stretch(len(pattern), stretch), "stretch")
    return rank_beside(pattern, stretch) == balls_of(pattern)


def most_burst(pattern):
    """The greatest number such that all stretches of this length are mended."""
    return len(pattern) - max(pattern)


def most_window(pattern):
    """The greatest number such that on all stretches of this length the digits can be any ones."""
    return min(pattern)
