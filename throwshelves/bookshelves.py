"""Books of rings with a shelf more, and with one fewer."""

from throwshelves.bookpatterns import pattern_of
from throwshelves.columnputs import with_nought, with_unit
from throwshelves.columns import columns_of, from_columns
from throwshelves.demands import demand
from throwshelves.kinds import is_place
from throwshelves.shelves import demand_gap, without


def book_with_rest(book, place):
    """The book with a place more, at which all words have 0."""
    prime, size, _ = book
    demand_gap(size, place)
    return from_columns(prime, tuple(with_nought(list(columns_of(book)), place)))


def book_with_full(book, place):
    """The book with a place more, at which the words have any digit, whatever they have elsewhere."""
    prime, size, _ = book
    demand_gap(size, place)
    return from_columns(prime, tuple(with_unit(list(columns_of(book)), place)))


def book_doubled(book, place):
    """The book with a place more behind the place, at which all words have the digit of the place again."""
    prime, size, _ = book
    demand(is_place(size, place), "place")
    columns = columns_of(book)
    return from_columns(prime, columns[:place + 1] + columns[place:])


def book_without(book, place):
    """The book of the words without their digit at the place; Barred, if the book's pattern does not tell its own."""
    without(pattern_of(book), place)
    columns = columns_of(book)
    return from_columns(book[0], columns[:place] + columns[place + 1:])
