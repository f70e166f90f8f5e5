"""Words of which the digits on a stretch are lost."""

from throwshelves.bookpatterns import sum_of_rows
from throwshelves.books import checks_of
from throwshelves.columns import column_at, settled_columns
from throwshelves.demands import demand
from throwshelves.elimination import settled_rows, solution_of
from throwshelves.errors import Lost, Torn
from throwshelves.kinds import is_digit, is_stretch
from throwshelves.ringplaces import places_from


def are_told(prime, size, thing):
    """Whether the value has a digit or None for each place, and None just at the places of a stretch."""
    if not isinstance(thing, tuple) or len(thing) != size:
        return False
    if not all([digit is None or is_digit(prime, digit) for digit in thing]):
        return False
    ends = [k for k in range(size) if thing[k] is None and thing[(k + 1) % size] is not None]
    return len(ends) <= 1


def filled(book, digits):
    """The word of the book with the told digits."""
    prime, size, rows = book
    demand(are_told(prime, size, digits), "digits")
    told = [place for place in range(size) if digits[place] is not None]
    equations = [column_at(book, place) + (digits[place],) for place in told]
    multiples = solution_of(prime, equations, len(rows))
    if multiples is None:
        raise Torn(tearing_ways(book, told, digits))
    if len(settled_columns(book, told)) < len(rows):
        raise Lost(words_within(book, told)[0])
    return sum_of_rows(book, multiples)


def tearing_ways(book, told, digits):
    """A digit for each place, 0 but at the told ones, whose products come to 0 with all words, to 1 with the digits."""
    prime, size, rows = book
    equations = [tuple([row[place] for place in told]) + (0,) for row in rows]
    equations.append(tuple([digits[place] for place in told]) + (1,))
    ways = [0 for _ in range(size)]
    for place, digit in zip(told, solution_of(prime, equations, len(told))):
        ways[place] = digit
    return tuple(ways)


def words_within(book, told):
    """The settled rows of the words of the book that are 0 at all told places."""
    prime, size, _ = book
    units = [tuple([1 if at == place else 0 for at in range(size)]) for place in told]
    # These are the words that agree with all checks, and with one more for each told place.
    closed = (prime, size, settled_rows(prime, list(checks_of(book)[2]) + units))
    return checks_of(closed)[2]


def open_words(book, stretch):
    """The book of its words that are 0 elsewhere than on the stretch."""
    prime, size, _ = book
    demand(is_stretch(size, stretch), "stretch")
    start, length = stretch
    told = places_from(size, (start + length) % size, size - length)
    return (prime, size, words_within(book, told))


def holds_any(book, stretch):
    """Whether each tuple of digits on the stretch is that of some word."""
    demand(is_stretch(book[1], stretch), "stretch")
    start, length = stretch
    return len(settled_columns(book, places_from(book[1], start, length))) == length
