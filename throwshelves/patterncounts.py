"""How many patterns there are, and which."""

from math import comb

from throwshelves.demands import demand
from throwshelves.kinds import is_number, is_size


def demand_kind(size, balls):
    """Refuses what is no size and no number of balls."""
    demand(is_size(size), "size")
    demand(is_number(balls), "balls")


def pattern_count(size, balls):
    """How many patterns there are of this size with so many balls."""
    demand_kind(size, balls)
    counts = [comb(size, full) * order_count(size - full, balls - full) for full in range(min(size, balls) + 1)]
    return sum(counts)


def order_count(many, falls):
    """How many orders of so many places bring just so many of them to a lesser place."""
    counts = [1]
    for places in range(1, many + 1):
        # The last place stays, or comes to where another one came, which then comes to the last place:
        # it falls then, and that other one does not, so that one more falls only if it did not before.
        stay = [(k + 1) * counts[k] for k in range(len(counts))] + [0]
        fall = [0] + [(places - 1 - k) * counts[k] for k in range(len(counts))]
        counts = [one + other for one, other in zip(stay, fall)]
    return counts[falls] if falls < len(counts) else 0


def patterns_of(size, balls):
    """Yields the patterns of this size with so many balls, ascending."""
    demand_kind(size, balls)
    left = size * balls
    yield from patterns_from(size, left, ())


def patterns_from(size, left, throws):
    """Yields the patterns of this size that begin with these throws and have so much left for the others."""
    if len(throws) == size:
        if left == 0:
            yield throws
        return
    for throw in range(min(size, left) + 1):
        if can_follow(size, throws, throw):
            rest = left - throw
            longer = throws + (throw,)
            yield from patterns_from(size, rest, longer)


def can_follow(size, throws, throw):
    """Whether the throw, behind these ones, lands at a place at which none of them does."""
    targets = [(place + other) % size for place, other in enumerate(throws)]
    return (len(throws) + throw) % size not in targets


def level_pattern(size, balls):
    """The pattern of this size all throws of which are this number."""
    demand_kind(size, balls)
    demand(balls <= size, "balls")
    return tuple([balls for _ in range(size)])
