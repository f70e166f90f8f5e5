"""Patterns: where the balls land, which are in the air, and which rounds they go."""

from throwshelves.demands import accept, demand
from throwshelves.kinds import is_number, is_place


def throws_fault(thing):
    """What bars the value as a pattern, as a checker tells it: a word and an at; or None."""
    if not isinstance(thing, tuple) or not thing:
        return ("shape", -1)
    for i, throw in enumerate(thing):
        if not is_number(throw) or throw > len(thing):
            return ("throw", i)
    return clash_of(thing)


def clash_of(throws):
    """The first two throws that land at one place, as a checker tells them; None, if all places are unlike."""
    thrown = {}
    for j, throw in enumerate(throws):
        at = (j + throw) % len(throws)
        if at in thrown:
            return ("clash", (thrown[at], j))
        thrown[at] = j
    return None


def is_throws(thing):
    """Whether any value is a pattern."""
    return throws_fault(thing) is None


def lets_pattern(thing):
    """The balls of any value that is a pattern; InvalidPaper for the first thing that bars it."""
    accept(throws_fault(thing))
    return balls_of(thing)


def balls_of(pattern):
    """How many balls the pattern has."""
    return sum(pattern) // len(pattern)


def landing_of(pattern, i):
    """The landing of any integer."""
    return i + pattern[i % len(pattern)]


def landings_of(pattern):
    """The landings of all places."""
    return tuple([landing_of(pattern, place) for place in range(len(pattern))])


def target_of(pattern, place):
    """Where the ball of what is certainly a place lands."""
    return landing_of(pattern, place) % len(pattern)


def lands_at(pattern, place):
    """The place at which the ball thrown at the place lands."""
    demand(is_place(len(pattern), place), "place")
    return target_of(pattern, place)


def thrown_from(pattern, place):
    """The place whose ball lands here, and its throw."""
    demand(is_place(len(pattern), place), "place")
    targets = [target_of(pattern, other) for other in range(len(pattern))]
    source = targets.index(place)
    return (source, pattern[source])


def crossing(pattern, place):
    """How far from the place on the balls land that are thrown ahead of it, and not ahead of it down."""
    demand(is_place(len(pattern), place), "place")
    return state_at(pattern, place)


def state_at(pattern, place):
    """The crossing of what is certainly a place."""
    # No throw is above the size, so of the balls thrown ahead of the last size integers none is in the air.
    ahead = range(place - len(pattern), place)
    return tuple(sorted([landing_of(pattern, i) - place for i in ahead if landing_of(pattern, i) >= place]))


def states_of(pattern):
    """The crossings of all places."""
    return tuple([state_at(pattern, place) for place in range(len(pattern))])


def round_from(pattern, place):
    """The places that balls thrown here come to, until this one comes again."""
    places = [place]
    at = target_of(pattern, place)
    while at != place:
        places.append(at)
        at = target_of(pattern, at)
    return tuple(places)


def rounds_of(pattern):
    """The set of the rounds of places, each from its least one on."""
    rounds = [round_from(pattern, place) for place in range(len(pattern))]
    return tuple([places for places in rounds if places[0] == min(places)])


def ball_paths(pattern):
    """The rounds, each with how many balls go it."""
    return tuple([(places, balls_on(pattern, places)) for places in rounds_of(pattern)])


def balls_on(pattern, places):
    """How many balls go the round of these places."""
    return sum([pattern[place] for place in places]) // len(pattern)
