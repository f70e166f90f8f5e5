"""Bounds of throws: which patterns they let, and what bars all."""

from throwshelves.kinds import is_number


def is_bound(size, thing):
    """Whether the value is a pair of a least and a most number of a place of this size."""
    if not isinstance(thing, tuple) or len(thing) != 2:
        return False
    least, most = thing
    return is_number(least) and is_number(most) and least <= most <= size


def is_bounds(thing):
    """Whether any value is bounds."""
    if not isinstance(thing, tuple) or not thing:
        return False
    return all([is_bound(len(thing), pair) for pair in thing])


def is_between(pattern, bounds):
    """Whether the pattern is within the bounds."""
    if len(pattern) != len(bounds):
        return False
    return all([least <= throw <= most for throw, (least, most) in zip(pattern, bounds)])


def reaching(numbers, gap):
    """How many places reach over the gap ahead of this place, each by its number."""
    size = len(numbers)
    return len([a for a, number in enumerate(numbers) if (gap - a - 1) % size < number])


def leasts_over(bounds):
    """For each gap how many places reach over it by their least."""
    leasts = [least for least, _ in bounds]
    return [reaching(leasts, gap) for gap in range(len(bounds))]


def mosts_over(bounds):
    """For each gap how many places reach over it by their most."""
    mosts = [most for _, most in bounds]
    return [reaching(mosts, gap) for gap in range(len(bounds))]


def is_crowd(bounds, start, length):
    """Whether of more than length places all landings let are within the stretch, which is shorter than the ring."""
    size = len(bounds)
    # How far behind the start the first landing is, and the last one.
    firsts = [(i + least - start) % size for i, (least, _) in enumerate(bounds)]
    lasts = [first + most - least for first, (least, most) in zip(firsts, bounds)]
    return len([last for last in lasts if last < length]) > length


def first_crowd(bounds):
    """The first stretch that more places crowd than it has; None, if there is none."""
    size = len(bounds)
    for start in range(size):
        for length in range(1, size):
            if is_crowd(bounds, start, length):
                return (start, length)
    return None


def bar_of(bounds, balls):
    """What shows that no pattern within the bounds has so many balls; None, if one has."""
    for gap, over in enumerate(mosts_over(bounds)):
        if over < balls:
            return ("few", gap)
    for gap, over in enumerate(leasts_over(bounds)):
        if over > balls:
            return ("many", gap)
    crowd = first_crowd(bounds)
    return None if crowd is None else ("crowd",) + crowd


def with_throw(bounds, place, throw):
    """The bounds that let just this throw at the place."""
    return bounds[:place] + ((throw, throw),) + bounds[place + 1:]


def throw_let(bounds, balls, place):
    """The least throw at the place of the patterns within the bounds with so many balls, of which there are some."""
    least, most = bounds[place]
    throws = [throw for throw in range(least, most + 1) if bar_of(with_throw(bounds, place, throw), balls) is None]
    return throws[0]


def pattern_let(bounds, balls):
    """The first pattern within the bounds with so many balls, if nothing bars all of them."""
    for place in range(len(bounds)):
        bounds = with_throw(bounds, place, throw_let(bounds, balls, place))
    return tuple([throw for throw, _ in bounds])
