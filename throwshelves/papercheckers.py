"""The checker of papers that show the pattern of a book."""

from throwshelves.books import rank_of
from throwshelves.errors import InvalidPaper
from throwshelves.forms import is_form
from throwshelves.kinds import are_digits
from throwshelves.patterns import balls_of, is_throws
from throwshelves.ringplaces import places_from


def is_throws_paper(size, thing):
    """Whether the value is a triple of the word, a pattern of this size and a tuple of so many elements."""
    if not is_form((("throws", 2),), thing):
        return False
    _, throws, sums = thing
    if not is_throws(throws) or not isinstance(sums, tuple):
        return False
    return len(throws) == size and len(sums) == size


def is_mended_by(book, place, throw, thing):
    """Whether the value is what mend_digits may tell of the place for this throw, be it the least one or not."""
    prime, size, rows = book
    if throw == size:
        return thing is None
    if not are_digits(prime, throw, thing):
        return False
    menders = places_from(size, place + 1, throw)
    sums = [sum([digit * row[at] for digit, at in zip(thing, menders)]) for row in rows]
    return all([one % prime == row[place] for one, row in zip(sums, rows)])


def lets_pattern_of(book, thing):
    """The pattern that any value shows for the book; InvalidPaper for the first thing that bars it."""
    if not is_throws_paper(book[1], thing):
        raise InvalidPaper("shape", -1)
    _, throws, sums = thing
    if balls_of(throws) != rank_of(book):
        raise InvalidPaper("balls", -1)
    for place, throw in enumerate(throws):
        if not is_mended_by(book, place, throw, sums[place]):
            raise InvalidPaper("sum", place)
    return throws
