"""Papers of caps: a lot of places that keeps them, or a closed way that shows that there is none."""

from throwshelves.caps import demand_lot
from throwshelves.capways import lot_or_way, move_of
from throwshelves.demands import accept
from throwshelves.forms import is_form
from throwshelves.kinds import is_number, is_places
from throwshelves.ringplaces import places_from

# How many elements there are behind each word.
PAPERS = (("lot", 1), ("way", 1))
STEPS = (("on", 1), ("back", 1), ("cap", 1))


def cap_paper(size, caps, rank):
    """A lot of so many places that keeps the caps, or a closed way."""
    demand_lot(size, caps, rank)
    return lot_or_way(size, caps, rank)


def lot_fault(size, caps, rank, places):
    """What bars the places as a lot, as a checker tells it: a word and an at; or None."""
    if not is_places(size, places) or len(places) != rank:
        return ("places", -1)
    for k, ((start, length), number) in enumerate(caps):
        if len([place for place in places_from(size, start, length) if place in places]) > number:
            return ("cap", k)
    return None


def is_step(size, caps, thing):
    """Whether the value is a step."""
    if not is_form(STEPS, thing):
        return False
    word, at = thing
    return is_number(at) and at < (len(caps) if word == "cap" else size)


def way_fault(size, caps, rank, steps):
    """What bars the steps as a closed way, as a checker tells it: a word and an at; or None."""
    gap = None
    far = 0
    price = 0
    for k, step in enumerate(steps):
        if not is_step(size, caps, step):
            return ("step", k)
        begin, more, cost = move_of(size, caps, step)
        if gap is not None and begin != gap:
            return ("step", k)
        gap = (begin + more) % size
        far = far + more
        price = price + cost
    if far % size != 0 or far < size:
        return ("closed", -1)
    return None if price < far // size * rank else ("price", -1)


def caps_fault(size, caps, rank, thing):
    """What bars any value as a paper of the caps, as a checker tells it: a word and an at; or None."""
    if not is_form(PAPERS, thing) or not isinstance(thing[1], tuple):
        return ("shape", -1)
    word, told = thing
    if word == "lot":
        return lot_fault(size, caps, rank, told)
    return way_fault(size, caps, rank, told)


def lets_caps(size, caps, rank, thing):
    """Whether any value that is a paper of the caps shows a lot; InvalidPaper for the first that bars it."""
    demand_lot(size, caps, rank)
    accept(caps_fault(size, caps, rank, thing))
    return thing[0] == "lot"
