"""The checker of books."""

from throwshelves.errors import InvalidPaper
from throwshelves.kinds import book_fault


def lets_book(thing):
    """The rank of any value that is a book; InvalidPaper for the first thing that bars it."""
    fault = book_fault(thing)
    if fault is not None:
        word, at = fault
        raise InvalidPaper(word, at)
    return len(thing[2])
