"""Patterns as objects."""

from throwshelves.demands import demand
from throwshelves.errors import NotUsable
from throwshelves.kinds import is_place
from throwshelves.patterncounts import level_pattern
from throwshelves.patternlines import pattern_line, pattern_read
from throwshelves.patterns import balls_of, is_throws, lands_at, states_of
from throwshelves.swaps import depth_of, swapped


def throw_of(pattern, place):
    """The throw at any value that is a place."""
    demand(is_place(len(pattern), place), "place")
    return pattern[place]


class Pattern:
    """The pattern of these throws; it never changes."""

    def __init__(self, *throws):
        if not is_throws(throws):
            raise NotUsable("throws", -1)
        self._throws = throws

    @classmethod
    def read(cls, text):
        """The Pattern that any string writes."""
        throws = pattern_read(text)
        return Pattern(*throws)

    @property
    def throws_now(self):
        """The throws."""
        return self._throws

    @property
    def balls_now(self):
        """How many balls it has."""
        return balls_of(self._throws)

    @property
    def depth_now(self):
        """Its depth."""
        return depth_of(self._throws)

    @property
    def states_now(self):
        """The crossings of all places."""
        return states_of(self._throws)

    def swapped_at(self, i, j):
        """The Pattern of the swap at the pair."""
        throws = swapped(self._throws, i, j)
        return Pattern(*throws)

    def __getitem__(self, at):
        return throw_of(self._throws, at)

    def __call__(self, place):
        return lands_at(self._throws, place)

    def __len__(self):
        return len(self._throws)

    def __iter__(self):
        return iter(self._throws)

    def __eq__(self, other):
        return isinstance(other, Pattern) and self._throws == other._throws

    def __str__(self):
        return str(pattern_line(self._throws))


# The interface lists the methods for Level too, so they stand in its own body, not only in that of Pattern.
class Level(Pattern):
    """The pattern of this size all throws of which are this number."""

    def __init__(self, size, balls):
        self._throws = level_pattern(size, balls)

    @classmethod
    def read(cls, text):
        """The Pattern that any string writes, which need not be level."""
        throws = pattern_read(text)
        return Pattern(*throws)

    @property
    def throws_now(self):
        """The throws."""
        return self._throws

    @property
    def balls_now(self):
        """How many balls it has."""
        return balls_of(self._throws)

    @property
    def depth_now(self):
        """Its depth."""
        return depth_of(self._throws)

    @property
    def states_now(self):
        """The crossings of all places."""
        return states_of(self._throws)

    def swapped_at(self, i, j):
        """The Pattern of the swap at the pair."""
        throws = swapped(self._throws, i, j)
        return Pattern(*throws)

    def __getitem__(self, at):
        return throw_of(self._throws, at)

    def __call__(self, place):
        return lands_at(self._throws, place)

    def __len__(self):
        return len(self._throws)

    def __iter__(self):
        return iter(self._throws)

    def __eq__(self, other):
        return isinstance(other, Pattern) and self._throws == other._throws

    def __str__(self):
        return str(pattern_line(self._throws))
