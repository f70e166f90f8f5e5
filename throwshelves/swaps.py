"""Swaps of patterns, and their depth."""

from throwshelves.demands import demand
from throwshelves.kinds import is_integer, is_place
from throwshelves.patterns import landing_of


def swap_at(pattern, i, j):
    """The swap at the pair; None, if there is none."""
    size = len(pattern)
    near = landing_of(pattern, j) - i
    far = landing_of(pattern, i) - j
    if near > size or far < 0:
        return None
    throws = list(pattern)
    throws[i] = near
    throws[j % size] = far
    return tuple(throws)


def demand_pair(pattern, i, j):
    """Refuses what is no pair at which swaps are asked for."""
    demand(is_place(len(pattern), i), "i")
    demand(is_integer(j) and i < j < i + len(pattern), "j")


def can_swap(pattern, i, j):
    """Whether there is a swap at the pair."""
    demand_pair(pattern, i, j)
    return swap_at(pattern, i, j) is not None


def swapped(pattern, i, j):
    """The swap at the pair."""
    demand_pair(pattern, i, j)
    other = swap_at(pattern, i, j)
    demand(other is not None, "j")
    return other


def pairs_of(pattern):
    """All pairs at which swaps are asked for, ascending."""
    size = len(pattern)
    return [(i, j) for i in range(size) for j in range(i + 1, i + size)]


def is_falling(pattern, i, j):
    """Whether the ball of the integer i lands behind that of j."""
    return landing_of(pattern, i) > landing_of(pattern, j)


def is_close(pattern, i, j):
    """Whether no integer between both lands between where they do, so that their swap changes the depth by just 1."""
    low, high = sorted([landing_of(pattern, i), landing_of(pattern, j)])
    return not any([low < landing_of(pattern, m) < high for m in range(i + 1, j)])


def lowering_swaps(pattern):
    """The set of all pairs at which there is a lowering swap."""
    rising = [(i, j) for i, j in pairs_of(pattern) if not is_falling(pattern, i, j)]
    return tuple([(i, j) for i, j in rising if swap_at(pattern, i, j) is not None])


def raising_swaps(pattern):
    """The set of all other pairs at which there is a swap."""
    falling = [(i, j) for i, j in pairs_of(pattern) if is_falling(pattern, i, j)]
    return tuple([(i, j) for i, j in falling if swap_at(pattern, i, j) is not None])


def depth_of(pattern):
    """How many pairs there are of which the first ball lands behind the second one."""
    # No throw is above the size, so no ball lands behind that of an integer a size further on, or more.
    return len([(i, j) for i, j in pairs_of(pattern) if is_falling(pattern, i, j)])
