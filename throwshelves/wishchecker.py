"""The checker of papers of wishes."""

from throwshelves.demands import accept
from throwshelves.forms import is_form
from throwshelves.kinds import is_place, is_stretch
from throwshelves.patterns import balls_of, is_throws
from throwshelves.wishbounds import is_crowd, leasts_over, mosts_over
from throwshelves.wishes import demand_wish

# How many elements there are behind each word.
FORMS = (("throws", 1), ("few", 1), ("many", 1), ("crowd", 2))


def throws_bar(bounds, balls, thing):
    """What bars the value as a pattern within the bounds with so many balls: a word and an at; or None."""
    if not is_throws(thing) or len(thing) != len(bounds) or balls_of(thing) != balls:
        return ("pattern", -1)
    for place, (least, most) in enumerate(bounds):
        if not least <= thing[place] <= most:
            return ("throw", place)
    return None


def is_gap_told(bounds, balls, word, thing):
    """Whether the value is a place ahead of which too few, or too many, balls fly."""
    if not is_place(len(bounds), thing):
        return False
    if word == "few":
        return mosts_over(bounds)[thing] < balls
    return leasts_over(bounds)[thing] > balls


def is_crowd_told(bounds, stretch):
    """Whether any value is a stretch, shorter than the ring, that more places crowd than it has."""
    size = len(bounds)
    if not is_stretch(size, stretch) or stretch[1] == size:
        return False
    start, length = stretch
    return is_crowd(bounds, start, length)


def wish_fault(bounds, balls, thing):
    """What bars any value as a paper of the wish, as a checker tells it: a word and an at; or None."""
    if not is_form(FORMS, thing):
        return ("shape", -1)
    word = thing[0]
    if word == "throws":
        return throws_bar(bounds, balls, thing[1])
    if word == "crowd":
        return None if is_crowd_told(bounds, thing[1:]) else ("stretch", -1)
    return None if is_gap_told(bounds, balls, word, thing[1]) else ("gap", -1)


def lets_wish(bounds, balls, thing):
    """Whether any value that is a paper of the wish shows a pattern; InvalidPaper for the first that bars it."""
    demand_wish(bounds, balls)
    accept(wish_fault(bounds, balls, thing))
    return thing[0] == "throws"
