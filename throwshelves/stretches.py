"""The greatest stretches without a throw within, and the least ones of full rank."""

from throwshelves.patterns import balls_of
from throwshelves.ranktables import rank_in


def is_free(pattern, start, length):
    """Whether no throw is within the stretch."""
    return rank_in(pattern, start, length) == length


def is_greatest_free(pattern, start, length):
    """Whether the stretch is free, and no longer so with a place more at either end."""
    size = len(pattern)
    if not is_free(pattern, start, length):
        return False
    if length == size:
        return True
    ahead = (start - 1) % size
    return not is_free(pattern, start, length + 1) and not is_free(pattern, ahead, length + 1)


def free_stretches(pattern):
    """The set of the greatest free stretches."""
    size = len(pattern)
    found = [(start, length) for start in range(size) for length in range(1, size + 1)]
    return tuple([(start, length) for start, length in found if is_greatest_free(pattern, start, length)])


def is_full(pattern, start, length):
    """Whether the stretch has the balls as its rank."""
    return rank_in(pattern, start, length) == balls_of(pattern)


def is_least_full(pattern, start, length):
    """Whether the stretch is full, and no longer so without its place at either end."""
    if not is_full(pattern, start, length):
        return False
    if length == 0:
        return True
    behind = (start + 1) % len(pattern)
    return not is_full(pattern, start, length - 1) and not is_full(pattern, behind, length - 1)


def full_stretches(pattern):
    """The set of the least full stretches."""
    size = len(pattern)
    found = [(start, length) for start in range(size) for length in range(size + 1)]
    return tuple([(start, length) for start, length in found if is_least_full(pattern, start, length)])
