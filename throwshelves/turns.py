"""Patterns and books of rings that are turned, or mirrored, and books whose columns are multiplied."""

from throwshelves.columns import columns_of, from_columns
from throwshelves.demands import demand
from throwshelves.elimination import times
from throwshelves.kinds import are_factors, is_integer
from throwshelves.patterns import target_of


def turned_row(row, k):
    """The tuple in which what is at each place stands k places further on, round the ring."""
    size = len(row)
    return tuple([row[(at - k) % size] for at in range(size)])


def turned_pattern(pattern, k):
    """The pattern in which the throw at each place stands k places further on."""
    demand(is_integer(k), "k")
    return turned_row(pattern, k)


def turned_book(book, k):
    """The book in which the column at each place stands k places further on."""
    demand(is_integer(k), "k")
    return from_columns(book[0], turned_row(columns_of(book), k))


def mirrored_pattern(pattern):
    """The pattern of the mirrored books: each throw stands where its ball landed, seen from the other side."""
    size = len(pattern)
    throws = [0 for _ in range(size)]
    for place, throw in enumerate(pattern):
        throws[-target_of(pattern, place) % size] = throw
    return tuple(throws)


def mirrored_book(book):
    """The book in which the columns stand the other way round, from place 0 on."""
    prime, size, _ = book
    columns = columns_of(book)
    return from_columns(prime, tuple([columns[-at % size] for at in range(size)]))


def scaled_book(book, digits):
    """The book in which the column of each place is multiplied by its digit."""
    prime, size, _ = book
    demand(are_factors(prime, size, digits), "digits")
    return from_columns(prime, tuple([times(prime, digit, column) for digit, column in zip(digits, columns_of(book))]))
