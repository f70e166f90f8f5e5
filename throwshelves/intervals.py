"""The patterns between two patterns, and how many there are."""

from throwshelves.demands import demand
from throwshelves.order import covered_by, covers_of, is_below, is_match
from throwshelves.patterncounts import patterns_of
from throwshelves.patterns import balls_of
from throwshelves.swaps import depth_of


def matches_of(pattern):
    """All patterns of its size with as many balls, ascending."""
    size = len(pattern)
    balls = balls_of(pattern)
    return [other for other in patterns_of(size, balls)]


def between(one, other):
    """The set of the patterns that lie below the other one, and below which the one lies."""
    demand(is_match(one, other), "other")
    return tuple([middle for middle in matches_of(one) if is_below(one, middle) and is_below(middle, other)])


def greatest_below(one, other):
    """The set of the greatest ones among the patterns that lie below both."""
    demand(is_match(one, other), "other")
    both = [low for low in matches_of(one) if is_below(low, one) and is_below(low, other)]
    # A chain from a greater one that lies below both has only such patterns on its way.
    return tuple([low for low in both if not any([high in both for high in covered_by(low)])])


def least_above(one, other):
    """The set of the least ones among the patterns below which both lie."""
    demand(is_match(one, other), "other")
    both = [high for high in matches_of(one) if is_below(one, high) and is_below(other, high)]
    return tuple([high for high in both if not any([low in both for low in covers_of(high)])])


def how_many_below(pattern):
    """How many patterns lie below the pattern, it too."""
    return len([low for low in matches_of(pattern) if is_below(low, pattern)])


def how_many_above(pattern):
    """Below how many patterns the pattern lies, it too."""
    return len([high for high in matches_of(pattern) if is_below(pattern, high)])


def counted_down(one, counts):
    """The patterns of one swap more than these, the one lying below them, with how many chains come to them."""
    further = {}
    for pattern in counts:
        for low in covers_of(pattern):
            if is_below(one, low):
                further[low] = further.get(low, 0) + counts[pattern]
    return further


def chain_count(one, other):
    """How many chains there are from the other pattern to the one."""
    demand(is_match(one, other), "other")
    counts = {other: 1}
    for _ in range(depth_of(one) - depth_of(other)):
        counts = counted_down(one, counts)
    return counts.get(one, 0)
