"""The patterns of checks."""

from throwshelves.patterns import target_of


def checks_pattern(pattern):
    """The pattern of the checks of each book with this pattern."""
    size = len(pattern)
    throws = [0 for _ in range(size)]
    for place, throw in enumerate(pattern):
        throws[target_of(pattern, place)] = size - throw
    return tuple(throws)
