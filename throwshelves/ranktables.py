"""Tables of ranks, of books and of patterns, and the patterns of tables."""

from throwshelves.columns import column_at
from throwshelves.demands import demand
from throwshelves.elimination import rows_with
from throwshelves.errors import Unheld
from throwshelves.kinds import is_stretch
from throwshelves.ringplaces import places_from
from throwshelves.tablechecker import is_table, table_fault


def table_of(book):
    """The table of the book."""
    return tuple([book_ranks(book, start) for start in range(book[1])])


def book_ranks(book, start):
    """The ranks of the stretches of the book from this place on, of all lengths."""
    prime, size, _ = book
    ranks = [0]
    rows = []
    for place in places_from(size, start, size):
        rows = rows_with(prime, rows, column_at(book, place))
        ranks.append(len(rows))
    return tuple(ranks)


def table_by(pattern):
    """The table of the pattern."""
    return tuple([pattern_ranks(pattern, start) for start in range(len(pattern))])


def pattern_ranks(pattern, start):
    """The ranks of the stretches of the pattern from this place on, of all lengths."""
    return tuple([rank_in(pattern, start, length) for length in range(len(pattern) + 1)])


def rank_in(pattern, start, length):
    """The rank of what is certainly a stretch."""
    places = places_from(len(pattern), start, length)
    within = [k for k, place in enumerate(places) if k + pattern[place] < length]
    return length - len(within)


def rank_by(pattern, stretch):
    """The rank of the stretch."""
    demand(is_stretch(len(pattern), stretch), "stretch")
    start, length = stretch
    return rank_in(pattern, start, length)


def pattern_by(table):
    """The pattern whose table this is; Unheld, if the table does not hold."""
    demand(is_table(table), "table")
    fault = table_fault(table)
    if fault is not None:
        raise Unheld(stretch_told(fault, len(table)))
    return tuple([throw_in(table, place) for place in range(len(table))])


def stretch_told(fault, size):
    """The stretch that a fault of a table of this size tells of."""
    word, at = fault
    if word == "nought":
        return (at, 0)
    if word == "whole":
        return (at, size)
    return at


def throw_in(table, place):
    """The least number of next places whose rank the place does not make greater; the size, if there is none."""
    size = len(table)
    behind = table[(place + 1) % size]
    for many in range(size):
        if table[place][many + 1] == behind[many]:
            return many
    return size


def is_rank_table(thing):
    """Whether any value is a table that holds."""
    return is_table(thing) and table_fault(thing) is None
