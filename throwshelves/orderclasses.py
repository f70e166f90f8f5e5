"""The patterns between two patterns as objects."""

from throwshelves.demands import demand
from throwshelves.intervals import between
from throwshelves.kinds import is_number
from throwshelves.order import covered_by, covers_of, is_below, is_match
from throwshelves.patterns import is_throws
from throwshelves.swaps import depth_of


def is_one_of(patterns, thing):
    """Whether any value is one of the patterns."""
    return is_throws(thing) and thing in patterns


def those_in(patterns, others):
    """Those of the patterns that are among the others, in their order."""
    return tuple([pattern for pattern in patterns if pattern in others])


class Interval:
    """The patterns that lie below the other one, and below which the one lies; it never changes."""

    def __init__(self, one, other):
        demand(is_throws(one), "one")
        demand(is_match(one, other) and is_below(one, other), "other")
        self._low = one
        self._high = other
        self._patterns = between(one, other)

    @property
    def low_now(self):
        """The pattern that lies below all."""
        return self._low

    @property
    def high_now(self):
        """The pattern below which all lie."""
        return self._high

    @property
    def height_now(self):
        """How much their depths differ."""
        return depth_of(self._low) - depth_of(self._high)

    def part(self, low, high):
        """The Interval of two of the patterns."""
        demand(is_one_of(self._patterns, low), "low")
        demand(is_one_of(self._patterns, high) and is_below(low, high), "high")
        return Interval(low, high)

    def __call__(self, steps):
        demand(is_number(steps), "steps")
        depth = depth_of(self._high) + steps
        return tuple([pattern for pattern in self._patterns if depth_of(pattern) == depth])

    def __and__(self, other):
        demand(isinstance(other, Interval), "late")
        return those_in(self._patterns, list(other))

    def __getitem__(self, at):
        demand(is_one_of(self._patterns, at), "pattern")
        return (those_in(covers_of(at), self._patterns), those_in(covered_by(at), self._patterns))

    def __contains__(self, x):
        return is_one_of(self._patterns, x)

    def __len__(self):
        return len(self._patterns)

    def __iter__(self):
        return iter(self._patterns)

    def __eq__(self, other):
        return isinstance(other, Interval) and self._low == other._low and self._high == other._high
