"""States of live rings: triples of the book, a word of it, and the set of the lost places, and what they tell."""

from throwshelves.bookpatterns import pattern_of
from throwshelves.books import rank_of
from throwshelves.columns import rank_on
from throwshelves.ringplaces import places_from


def first_state(book):
    """The state with the word of noughts, and nothing lost."""
    return (book, tuple([0 for _ in range(book[1])]), ())


def held_in(state):
    """The word, with None at the lost places."""
    _, word, lost = state
    return tuple([None if place in lost else digit for place, digit in enumerate(word)])


def is_mendable(pattern, lost, place):
    """Whether the next places, as many as the throw of this one is, are others that are not lost."""
    throw = pattern[place]
    menders = places_from(len(pattern), place + 1, throw)
    return throw < len(pattern) and not any([other in lost for other in menders])


def mendable_of(pattern, lost):
    """The set of those of the lost places that the next ones mend."""
    return tuple([place for place in lost if is_mendable(pattern, lost, place)])


def mendable_in(state):
    """The set of the lost places that the next ones mend."""
    book, _, lost = state
    return mendable_of(pattern_of(book), lost)


def left_in(state):
    """The set of the lost places that stay lost when others are mended as long as there are any."""
    book, _, lost = state
    pattern = pattern_of(book)
    mendable = mendable_of(pattern, lost)
    while mendable:
        lost = tuple([place for place in lost if place not in mendable])
        mendable = mendable_of(pattern, lost)
    return lost


def open_in(state):
    """How many rows of the book remain open to one who sees what is held."""
    book, _, lost = state
    return rank_of(book) - rank_on(book, tuple([place for place in range(book[1]) if place not in lost]))
