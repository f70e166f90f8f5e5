"""Patterns that come to each other when the ring is turned or mirrored, or the checks are taken."""

from throwshelves.demands import demand
from throwshelves.duals import checks_pattern
from throwshelves.patterns import is_throws
from throwshelves.turns import mirrored_pattern, turned_row


def all_turned(pattern):
    """The patterns that come of it turned by all numbers below the size, in order."""
    return [turned_row(pattern, k) for k in range(len(pattern))]


def turns_of(pattern):
    """The set of the numbers by which turned the pattern is as it was."""
    return tuple([k for k, other in enumerate(all_turned(pattern)) if other == pattern])


def kin_of(pattern):
    """The set of the patterns that come of it, or of it mirrored, by turning."""
    return tuple(sorted(set(all_turned(pattern) + all_turned(mirrored_pattern(pattern)))))


def least_kin(pattern):
    """The first one of its kin."""
    return kin_of(pattern)[0]


def changes_of(pattern):
    """The words of all changes ahead of turning, in order, each with the pattern so changed."""
    checks = checks_pattern(pattern)
    both = mirrored_pattern(checks)
    return (("turned", pattern), ("mirrored", mirrored_pattern(pattern)), ("checks", checks), ("both", both))


def kin_step(one, other):
    """The first change, with the least turn behind it, by which the one pattern comes to the other; None without."""
    demand(is_throws(other), "other")
    for word, changed in changes_of(one):
        turned = all_turned(changed)
        if other in turned:
            return (word, turned.index(other))
    return None
