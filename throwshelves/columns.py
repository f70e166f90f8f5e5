"""The columns of books, and the ranks of places and stretches."""

from throwshelves.demands import demand
from throwshelves.elimination import is_sum, settled_rows
from throwshelves.kinds import is_digit, is_place, is_places, is_prime, is_stretch
from throwshelves.ringplaces import places_from


def column_at(book, place):
    """The column of what is certainly a place."""
    return tuple([row[place] for row in book[2]])


def column_of(book, place):
    """The column of the place."""
    demand(is_place(book[1], place), "place")
    return column_at(book, place)


def columns_of(book):
    """The columns of all places."""
    return tuple([column_at(book, place) for place in range(book[1])])


def are_columns(prime, thing):
    """Whether the value is a nonempty tuple of equally long tuples of digits."""
    if not isinstance(thing, tuple) or not thing:
        return False
    if not all([isinstance(column, tuple) for column in thing]):
        return False
    if not all([len(column) == len(thing[0]) for column in thing]):
        return False
    return all([is_digit(prime, digit) for column in thing for digit in column])


def from_columns(prime, columns):
    """The book whose words are all sums of multiples of the rows that the columns make."""
    demand(is_prime(prime), "prime")
    demand(are_columns(prime, columns), "columns")
    words = [tuple([column[k] for column in columns]) for k in range(len(columns[0]))]
    return (prime, len(columns), settled_rows(prime, words))


def settled_columns(book, places):
    """The settled rows of which the columns of these places are sums, and that are sums of them."""
    return settled_rows(book[0], [column_at(book, place) for place in places])


def rank_on(book, places):
    """How many columns of the places can be chosen, none of them a sum of multiples of the others."""
    demand(is_places(book[1], places), "places")
    return len(settled_columns(book, places))


def stretch_rank(book, stretch):
    """The rank of the stretch."""
    size = book[1]
    demand(is_stretch(size, stretch), "stretch")
    start, length = stretch
    return len(settled_columns(book, places_from(size, start, length)))


def spans(book, places, place):
    """Whether the column of the place is a sum of multiples of those of the places."""
    demand(is_places(book[1], places), "places")
    demand(is_place(book[1], place), "place")
    return is_sum(book[0], settled_columns(book, places), column_at(book, place))
