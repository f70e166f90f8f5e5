"""Caps of ranks: lots of places that keep them, and closed ways that show that there are none.

A lot tells for each gap, that ahead of a place, how many of its places are ahead of it, and so many as its rank more
once round. Each step then bars that the gap at its end has more than the gap at its begin and its price; what keeps
to all steps is a lot, and a closed way whose prices come to less than its rounds bring is what bars all lots.
"""

from throwshelves.kinds import is_number, is_stretch


def is_caps(size, thing):
    """Whether any value is caps of the size."""
    if not isinstance(thing, tuple):
        return False
    if not all([isinstance(cap, tuple) and len(cap) == 2 for cap in thing]):
        return False
    return all([is_stretch(size, stretch) and is_number(number) for stretch, number in thing])


def move_of(size, caps, step):
    """The gap at which the step begins, how far it goes, and its price."""
    word, at = step
    if word == "on":
        return (at, 1, 1)
    if word == "back":
        return ((at + 1) % size, -1, 0)
    (start, length), number = caps[at]
    return (start, length, number)


def all_steps(size, caps):
    """All steps that there are."""
    ons = [("on", place) for place in range(size)]
    backs = [("back", place) for place in range(size)]
    return ons + backs + [("cap", k) for k in range(len(caps))]


def bars_of(size, caps, rank):
    """For each step the gaps at its begin and its end, its price less what its round brings, and itself."""
    bars = []
    for step in all_steps(size, caps):
        begin, far, price = move_of(size, caps, step)
        bars.append((begin, (begin + far) % size, price - (begin + far) // size * rank, step))
    return bars


def pressed(bars, sums):
    """The sums when each gap has at most what the bars to it let by these sums, and the bars that pressed them."""
    lower = list(sums)
    pressing = [None for _ in sums]
    for bar in bars:
        begin, end, price, _ = bar
        if sums[begin] + price < lower[end]:
            lower[end] = sums[begin] + price
            pressing[end] = bar
    return (lower, pressing)


def lot_or_way(size, caps, rank):
    """A paper of a lot of so many places that keeps the caps, or of a closed way if there is none."""
    bars = bars_of(size, caps, rank)
    sums = [0 for _ in range(size)]
    rounds = []
    for _ in range(size):
        lower, pressing = pressed(bars, sums)
        if lower == sums:
            return ("lot", lot_by(sums, rank))
        sums = lower
        rounds.append(pressing)
    return ("way", closed_part(walk_back(rounds)))


def lot_by(sums, rank):
    """The places behind whose gap the next one has more."""
    behind = sums[1:] + [sums[0] + rank]
    return tuple([place for place in range(len(sums)) if behind[place] > sums[place]])


def walk_back(rounds):
    """The bars, one after another, by which a gap was pressed in the last round."""
    # What is pressed in a round was pressed by a gap that the round ahead had pressed, else it had been so then.
    pressed_gaps = [gap for gap, bar in enumerate(rounds[-1]) if bar is not None]
    at = pressed_gaps[0]
    walk = []
    for pressing in rounds[::-1]:
        walk.append(pressing[at])
        at = pressing[at][0]
    return walk[::-1]


def closed_part(walk):
    """The steps of the first part of the walk that ends where it begins, as some does: it has as many as gaps."""
    gaps = [walk[0][0]]
    for bar in walk:
        if bar[1] in gaps:
            begin = gaps.index(bar[1])
            return tuple([step for _, _, _, step in walk[begin:len(gaps)]])
        gaps.append(bar[1])
    return None
