"""Rings put beside each other to make one, and patterns taken apart again."""

from throwshelves.demands import demand
from throwshelves.kinds import is_book, is_integer
from throwshelves.patterns import is_throws


def part_joined(part, more):
    """The throws of this part of a ring that has so many places more."""
    return [throw if i + throw < len(part) else throw + more for i, throw in enumerate(part)]


def part_split(throws, more):
    """The throws of what may be a part of a ring that has so many places more, when these places are taken away."""
    return tuple([throw if i + throw < len(throws) else throw - more for i, throw in enumerate(throws)])


def pattern_joined(one, other):
    """The pattern of both patterns, one behind the other."""
    return tuple(part_joined(one, len(other)) + part_joined(other, len(one)))


def joined_patterns(one, other):
    """The pattern of the ring of both rings' places."""
    demand(is_throws(other), "other")
    return pattern_joined(one, other)


def joined_books(one, other):
    """The book of the words that are one of the one book and behind it one of the other book."""
    demand(is_book(other) and other[0] == one[0], "other")
    prime, size, rows = one
    _, more, others = other
    ahead = [row + tuple([0 for _ in range(more)]) for row in rows]
    behind = [tuple([0 for _ in range(size)]) + row for row in others]
    return (prime, size + more, tuple(ahead + behind))


def split_at(pattern, place):
    """The two patterns, the first one of this size, that are joined in the pattern; None, if there are none."""
    size = len(pattern)
    demand(is_integer(place) and 1 <= place < size, "place")
    one = part_split(pattern[:place], size - place)
    other = part_split(pattern[place:], place)
    # Where a ball flies from one part into the other one, and lands there, these come to other throws.
    return (one, other) if pattern_joined(one, other) == pattern else None
