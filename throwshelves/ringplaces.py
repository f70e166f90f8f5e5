"""The places of a ring."""


def places_from(size, start, many):
    """So many places from this one on, in order."""
    return tuple([(start + k) % size for k in range(many)])


def places_ahead(size, place):
    """All other places, those next ahead of this one first."""
    return tuple([(place - k) % size for k in range(1, size)])
