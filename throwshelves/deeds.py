"""The deeds of plans, which make a ring, shelf by shelf."""

from throwshelves.forms import is_form
from throwshelves.insertions import put_in, taken_out
from throwshelves.kinds import is_number
from throwshelves.swaps import is_falling, swap_at

# How many elements there are behind each word.
FORMS = (("rest", 1), ("full", 1), ("bridge", 1))


def is_deed(thing):
    """Whether any value is a pair of one of the three words and a number."""
    return is_form(FORMS, thing) and is_number(thing[1])


def can_stand(throws, deed):
    """Whether the deed can stand when the throws are these ones, perhaps none."""
    word, place = deed
    if word != "bridge":
        return place <= len(throws)
    return len(throws) > 1 and place < len(throws) and is_falling(throws, place, place + 1)


def throws_after(throws, deed):
    """The throws after the deed, which can stand."""
    word, place = deed
    if word == "bridge":
        return swap_at(throws, place, place + 1)
    return put_in(throws, place, 0 if word == "rest" else len(throws) + 1)


def plan_run(deeds):
    """The throws that the deeds make, and what bars the first one that is none or cannot stand, or None."""
    throws = ()
    for k, deed in enumerate(deeds):
        if not is_deed(deed):
            return (throws, ("deed", k))
        if not can_stand(throws, deed):
            return (throws, ("place", k))
        throws = throws_after(throws, deed)
    return (throws, None)


def throws_by(plan):
    """The pattern of what is certainly a plan."""
    throws, _ = plan_run(plan)
    return throws


def is_plan(thing):
    """Whether any value is a plan of at least one deed."""
    if not isinstance(thing, tuple) or not thing:
        return False
    _, fault = plan_run(thing)
    return fault is None


def bridges_in(plan):
    """How many bridges the plan has."""
    return len([deed for deed in plan if deed[0] == "bridge"])


def last_deed(pattern):
    """A deed with which a plan of the pattern can end."""
    for place, throw in enumerate(pattern):
        if throw == 0:
            return ("rest", place)
        if throw == len(pattern):
            return ("full", place)
    # All landings once round the ring go up by its size, so somewhere one is less than the next one.
    rising = [place for place in range(len(pattern)) if not is_falling(pattern, place, place + 1)]
    return ("bridge", rising[0])


def throws_ahead(pattern, deed):
    """The throws ahead of the last deed of a plan of the pattern."""
    word, place = deed
    if word == "bridge":
        return swap_at(pattern, place, place + 1)
    return taken_out(pattern, place)
