"""The patterns of books, how a place is mended, and what keeps it from being mended sooner."""

from throwshelves.columns import column_at
from throwshelves.demands import demand
from throwshelves.elimination import is_sum, rows_with, solution_of
from throwshelves.kinds import is_place
from throwshelves.ringplaces import places_ahead, places_from


def reach_over(book, place, others):
    """How many of the other places, in this order, it takes at least to mend the place; the size, if all do not."""
    prime, size, _ = book
    column = column_at(book, place)
    rows = []
    for many, other in enumerate(others):
        if is_sum(prime, rows, column):
            return many
        rows = rows_with(prime, rows, column_at(book, other))
    return size - 1 if is_sum(prime, rows, column) else size


def throw_by(book, place):
    """The throw of what is certainly a place."""
    size = book[1]
    return reach_over(book, place, places_from(size, place + 1, size - 1))


def pattern_of(book):
    """The pattern of the book."""
    return tuple([throw_by(book, place) for place in range(book[1])])


def throw_at(book, place):
    """The throw of the place."""
    demand(is_place(book[1], place), "place")
    return throw_by(book, place)


def back_throw(book, place):
    """How many of the places ahead of the place it takes at least to mend it; the size, if all do not."""
    demand(is_place(book[1], place), "place")
    return reach_over(book, place, places_ahead(book[1], place))


def mend_digits(book, place):
    """The multiples of the columns of the next places that come to that of the place; None, if no ones do."""
    demand(is_place(book[1], place), "place")
    prime, size, rows = book
    throw = throw_by(book, place)
    if throw == size:
        return None
    menders = places_from(size, place + 1, throw)
    equations = [tuple([row[other] for other in menders]) + (row[place],) for row in rows]
    return solution_of(prime, equations, throw)


def keep_word(book, place):
    """A word that has 1 at the place and 0 at the next ones, one fewer than the throw; None for a throw of 0."""
    demand(is_place(book[1], place), "place")
    prime, size, rows = book
    throw = throw_by(book, place)
    if throw == 0:
        return None
    noughts = places_from(size, place + 1, throw - 1)
    equations = [column_at(book, other) + (0,) for other in noughts] + [column_at(book, place) + (1,)]
    return sum_of_rows(book, solution_of(prime, equations, len(rows)))


def sum_of_rows(book, multiples):
    """The word that is the sum of these multiples of the rows."""
    prime, size, rows = book
    return tuple([sum([many * row[at] for many, row in zip(multiples, rows)]) % prime for at in range(size)])
