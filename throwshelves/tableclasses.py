"""Tables of ranks as objects."""

from throwshelves.demands import demand
from throwshelves.kinds import is_book, is_stretch
from throwshelves.patterns import balls_of
from throwshelves.ranktables import pattern_by, table_of
from throwshelves.stretches import free_stretches, full_stretches, is_free
from throwshelves.tablechecker import lets_table


def rank_told(table, stretch):
    """The integer that the table has for any value that is a stretch."""
    demand(is_stretch(len(table), stretch), "stretch")
    start, length = stretch
    return table[start][length]


def is_told_free(pattern, thing):
    """Whether any value is a stretch without a throw of the pattern within."""
    if not is_stretch(len(pattern), thing):
        return False
    start, length = thing
    return is_free(pattern, start, length)


class Table:
    """A table that holds; it never changes."""

    def __init__(self, table):
        lets_table(table)
        self._table = table
        self._pattern = pattern_by(table)

    @classmethod
    def of(cls, book):
        """The Table of any value that is a book."""
        demand(is_book(book), "book")
        return Table(table_of(book))

    @property
    def table_now(self):
        """The table."""
        return self._table

    @property
    def pattern_now(self):
        """The pattern whose table this is."""
        return self._pattern

    @property
    def balls_now(self):
        """How many balls the pattern has."""
        return balls_of(self._pattern)

    def free(self):
        """The greatest free stretches of the pattern."""
        return free_stretches(self._pattern)

    def full(self):
        """The least full stretches of the pattern."""
        return full_stretches(self._pattern)

    def __getitem__(self, at):
        return rank_told(self._table, at)

    def __contains__(self, x):
        return is_told_free(self._pattern, x)

    def __len__(self):
        return len(self._table)

    def __iter__(self):
        return iter(self._table)

    def __eq__(self, other):
        return isinstance(other, Table) and self._table == other._table
