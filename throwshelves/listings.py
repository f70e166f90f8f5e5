"""All books of a size and a rank, and of a pattern."""

from throwshelves.bookpatterns import pattern_of
from throwshelves.books import counted_on
from throwshelves.counts import book_count, demand_order
from throwshelves.demands import demand
from throwshelves.kinds import is_prime
from throwshelves.patterncounts import patterns_of
from throwshelves.patterns import balls_of


def lead_sets(size, rank):
    """All ascending tuples of so many places of the size."""
    found = [()]
    for place in range(size):
        # Those stay without the place that come to so many by the places behind it.
        without = [leads for leads in found if len(leads) + size - place - 1 >= rank]
        found = without + [leads + (place,) for leads in found if len(leads) < rank]
    return found


def books_led(size, leads, prime):
    """All books of this size and prime whose rows have their leads at these places."""
    free = [(k, at) for k, lead in enumerate(leads) for at in range(lead + 1, size) if at not in leads]
    books = []
    digits = [0 for _ in free]
    while digits is not None:
        books.append((prime, size, rows_led(size, leads, dict(zip(free, digits)))))
        digits = counted_on(prime, digits)
    return books


def rows_led(size, leads, told):
    """The rows with these leads that have the told digits at pairs of a row and a place, and else 0."""
    rows = []
    for k, lead in enumerate(leads):
        rows.append(tuple([1 if at == lead else told.get((k, at), 0) for at in range(size)]))
    return tuple(rows)


def listed_books(size, rank, prime):
    """All books of this size, rank and prime, ascending."""
    return sorted([book for leads in lead_sets(size, rank) for book in books_led(size, leads, prime)])


def all_books(size, rank, prime):
    """Yields all books of this size, rank and prime, ascending."""
    demand_order(size, rank, prime)
    for book in listed_books(size, rank, prime):
        yield book


def books_of(pattern, prime):
    """Yields all books of the prime that have the pattern, ascending."""
    demand(is_prime(prime), "prime")
    for book in listed_books(len(pattern), balls_of(pattern), prime):
        if pattern_of(book) == pattern:
            yield book


def counts_of(size, rank, prime):
    """Each pattern of this size with so many balls, with how many books of the prime have it."""
    demand_order(size, rank, prime)
    return tuple([(pattern, book_count(pattern, prime)) for pattern in patterns_of(size, rank)])
