"""Wishes as objects."""

from throwshelves.demands import demand
from throwshelves.errors import Barred
from throwshelves.kinds import is_place, is_size, is_stretch
from throwshelves.patterns import is_throws
from throwshelves.ringplaces import places_from
from throwshelves.wishbounds import is_between, is_bounds
from throwshelves.wishes import balls_let, pattern_within


def pair_of(bounds, place):
    """The pair of any value that is a place."""
    demand(is_place(len(bounds), place), "place")
    return bounds[place]


def with_leasts(bounds, leasts):
    """The bounds that let at each place only throws from this least one on, too."""
    return tuple([(max(least, other), most) for (least, most), other in zip(bounds, leasts)])


def with_mosts(bounds, mosts):
    """The bounds that let at each place only throws up to this most one, too."""
    return tuple([(least, min(most, other)) for (least, most), other in zip(bounds, mosts)])


def without_clash(pairs):
    """The pairs as they are; Barred, if a least number is above the most one."""
    for place, (least, most) in enumerate(pairs):
        if least > most:
            raise Barred(("clash", place))
    return pairs


def freed(bounds, stretch):
    """The pairs of the patterns that are also without a throw within the stretch."""
    start, length = stretch
    leasts = [0 for _ in bounds]
    for k, place in enumerate(places_from(len(bounds), start, length)):
        leasts[place] = length - k
    return with_leasts(bounds, leasts)


def burst_mended(bounds, stretch):
    """The pairs of the patterns by which the stretch is also mended."""
    size = len(bounds)
    start, length = stretch
    mosts = [size for _ in bounds]
    for k, place in enumerate(places_from(size, start, length)):
        # The others tell the digit here if its ball lands before the start of the stretch comes again.
        mosts[place] = size - k - 1
    return with_mosts(bounds, mosts)


class Wish:
    """The wish for throws within the bounds; it never changes."""

    def __init__(self, bounds):
        demand(is_bounds(bounds), "bounds")
        self._bounds = bounds

    @classmethod
    def of_size(cls, size):
        """The Wish that lets all patterns of this size."""
        demand(is_size(size), "size")
        return Wish(tuple([(0, size) for _ in range(size)]))

    @property
    def bounds_now(self):
        """The bounds."""
        return self._bounds

    @property
    def balls_now(self):
        """The fewest and the most balls that they let, or None."""
        return balls_let(self._bounds)

    def pattern(self, balls):
        """A pattern within the bounds with so many balls."""
        return pattern_within(self._bounds, balls)

    def free(self, stretch):
        """The Wish for a pattern that is also without a throw within the stretch."""
        demand(is_stretch(len(self._bounds), stretch), "stretch")
        return Wish(without_clash(freed(self._bounds, stretch)))

    def mended(self, stretch):
        """The Wish for a pattern by which the stretch is also mended."""
        demand(is_stretch(len(self._bounds), stretch), "stretch")
        return Wish(without_clash(burst_mended(self._bounds, stretch)))

    def __and__(self, other):
        demand(isinstance(other, Wish) and len(other) == len(self._bounds), "other")
        leasts = [least for least, _ in other.bounds_now]
        mosts = [most for _, most in other.bounds_now]
        return Wish(without_clash(with_mosts(with_leasts(self._bounds, leasts), mosts)))

    def __getitem__(self, at):
        return pair_of(self._bounds, at)

    def __contains__(self, x):
        return is_throws(x) and is_between(x, self._bounds)

    def __len__(self):
        return len(self._bounds)

    def __iter__(self):
        return iter(self._bounds)

    def __eq__(self, other):
        return isinstance(other, Wish) and self._bounds == other._bounds
