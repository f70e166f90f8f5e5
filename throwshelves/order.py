"""Which pattern lies below which."""

from throwshelves.demands import demand
from throwshelves.kinds import is_number, is_size
from throwshelves.listings import lead_sets
from throwshelves.patterns import balls_of, is_throws
from throwshelves.ranktables import rank_in
from throwshelves.swaps import is_close, lowering_swaps, raising_swaps, swap_at


def is_match(pattern, thing):
    """Whether any value is a pattern of the size and the balls of this one."""
    return is_throws(thing) and len(thing) == len(pattern) and balls_of(thing) == balls_of(pattern)


def stretch_between(one, other):
    """The shortest stretch, of these the first one, whose rank is greater in the one pattern; None without any."""
    for length in range(1, len(one)):
        for start in range(len(one)):
            if rank_in(one, start, length) > rank_in(other, start, length):
                return (start, length)
    # Stretches without places, and with all, have the same rank in both.
    return None


def is_below(one, other):
    """Whether the one pattern lies below the other one, which is certainly of its size and balls."""
    return stretch_between(one, other) is None


def lies_below(one, other):
    """Whether the one pattern lies below the other one."""
    demand(is_match(one, other), "other")
    return is_below(one, other)


def barring_stretch(one, other):
    """The shortest stretch, of these the first one, whose rank is greater in the one pattern; None without any."""
    demand(is_match(one, other), "other")
    return stretch_between(one, other)


def covering_swaps(pattern):
    """The set of all pairs at which there is a lowering swap by which the depth is one more."""
    return tuple([(i, j) for i, j in lowering_swaps(pattern) if is_close(pattern, i, j)])


def covers_of(pattern):
    """The set of the patterns that chains of one swap make of the pattern."""
    return tuple(sorted([swap_at(pattern, i, j) for i, j in covering_swaps(pattern)]))


def covered_by(pattern):
    """The set of the patterns of which chains of one swap make the pattern."""
    pairs = [(i, j) for i, j in raising_swaps(pattern) if is_close(pattern, i, j)]
    return tuple(sorted([swap_at(pattern, i, j) for i, j in pairs]))


def pair_toward(one, other):
    """A pair with which a chain from the other pattern to the one below it, which is another one, can begin."""
    for i, j in covering_swaps(other):
        if is_below(one, swap_at(other, i, j)):
            return (i, j)
    return None


def chain_between(one, other):
    """A chain from the other pattern to the one, which lies below it."""
    chain = []
    while other != one:
        i, j = pair_toward(one, other)
        chain.append((i, j))
        other = swap_at(other, i, j)
    return tuple(chain)


def chain_to(one, other):
    """A chain from the other pattern to the one; None, if this does not lie below the other one."""
    demand(is_match(one, other), "other")
    return chain_between(one, other) if is_below(one, other) else None


def lowest_of(size, balls):
    """The set of the patterns of this size with so many balls below which no other one lies."""
    demand(is_size(size), "size")
    demand(is_number(balls) and balls <= size, "balls")
    # Just the patterns whose throws are all 0 or the size let no lowering swap.
    fulls = lead_sets(size, balls)
    return tuple(sorted([tuple([size if place in full else 0 for place in range(size)]) for full in fulls]))
