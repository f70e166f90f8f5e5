"""The checker of books."""

from throwshelves.demands import accept
from throwshelves.kinds import book_fault


def lets_book(thing):
    """The rank of any value that is a book; InvalidPaper for the first thing that bars it."""
    accept(book_fault(thing))
    return len(thing[2])
