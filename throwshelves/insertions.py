"""Patterns with a shelf more, or a shelf less, that throws 0 or all the way round."""


def put_in(throws, place, throw):
    """The throws with a shelf more at the place, which throws 0 or all the way round."""
    size = len(throws)
    # A ball that lands where the new shelf is put, or further on, flies over it.
    ahead = [other + 1 if i + other >= place else other for i, other in enumerate(throws[:place])]
    behind = [other + 1 if i + other >= place + size else other for i, other in enumerate(throws) if i >= place]
    return tuple(ahead + [throw] + behind)


def taken_out(throws, place):
    """The throws without the shelf at the place, which throws 0 or all the way round."""
    size = len(throws)
    ahead = [other - 1 if i + other > place else other for i, other in enumerate(throws[:place])]
    behind = [other - 1 if i + other > place + size else other for i, other in enumerate(throws) if i > place]
    return tuple(ahead + behind)
