"""The steps by which the books of a pattern are counted, from patterns to lesser or deeper ones."""

from throwshelves.patterns import landing_of
from throwshelves.swaps import is_falling


def come_of(pattern, i):
    """The integer from which the ball comes that lands at the integer i."""
    size = len(pattern)
    sources = [j for j in range(i - size, i + 1) if landing_of(pattern, j) == i]
    return sources[0]


def other_name(size, i, m):
    """What the integer m is called when i and the next shelf change places, and those a size further likewise."""
    if (m - i) % size == 0:
        return m + 1
    if (m - i - 1) % size == 0:
        return m - 1
    return m


def exchanged(pattern, i):
    """The pattern in which i and the next shelf have changed places; None, if this is no pattern."""
    size = len(pattern)
    throws = [0 for _ in range(size)]
    for m in range(size):
        name = other_name(size, i, m)
        throws[name % size] = other_name(size, i, landing_of(pattern, m)) - name
    if min(throws) < 0 or max(throws) > size:
        return None
    return tuple(throws)


def is_coming_late(pattern, i):
    """Whether the ball that lands at i comes from behind that which lands at the next shelf."""
    return come_of(pattern, i) > come_of(pattern, i + 1)


def can_turn(pattern, i):
    """Whether just one holds of two things: that i lands behind the next shelf, that what lands at it comes so."""
    return is_falling(pattern, i, i + 1) != is_coming_late(pattern, i)


def can_part(pattern, i):
    """Whether the books of the pattern are those of the swap at i and the next shelf, and of both exchanged."""
    size = len(pattern)
    if pattern[i] in (0, size) or pattern[(i + 1) % size] in (0, size):
        return False
    return not is_falling(pattern, i, i + 1) and not is_coming_late(pattern, i)


def turned_by(pattern, places):
    """The pattern in which each of the places, one after another, has changed places with the next shelf."""
    for i in places:
        pattern = exchanged(pattern, i)
    return pattern


def idle_place(pattern):
    """The first place that throws 0 or the size; None, if there is none."""
    for place, throw in enumerate(pattern):
        if throw in (0, len(pattern)):
            return place
    return None


def parting_place(pattern):
    """The first place at which the books can be parted; None, if there is none."""
    for place in range(len(pattern)):
        if can_part(pattern, place):
            return place
    return None


def turning_places(pattern):
    """The fewest places, one after another, by which the pattern comes to one whose books can be parted."""
    reached = [(pattern, ())]
    seen = {pattern: True}
    while reached:
        further = []
        for one, places in reached:
            if parting_place(one) is not None:
                return places
            further.extend([(exchanged(one, i), places + (i,)) for i in range(len(one)) if can_turn(one, i)])
        reached = []
        for one, places in further:
            if one not in seen:
                seen[one] = True
                reached.append((one, places))
    return None


def count_step(pattern):
    """The word of a count paper of the pattern, and its place or places."""
    if len(pattern) == 1:
        return ("one", 0)
    place = idle_place(pattern)
    if place is not None:
        return ("rest" if pattern[place] == 0 else "full", place)
    places = turning_places(pattern)
    if places:
        return ("turned", places)
    return ("both", parting_place(pattern))
