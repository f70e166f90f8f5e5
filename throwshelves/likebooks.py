"""Books that come to each other when the ring is turned or mirrored, and the columns are multiplied."""

from throwshelves.books import is_like
from throwshelves.demands import demand
from throwshelves.elimination import inverse_of, lead_of
from throwshelves.turns import mirrored_book, scaled_book, turned_book


def links_between(one, other):
    """Pairs of places of which, by the rows of both books, the second one's digit is so many times the first one's."""
    prime, size, rows = one
    links = []
    for row, wanted in zip(rows, other[2]):
        lead = lead_of(row)
        for place in range(lead + 1, size):
            if row[place] != 0 and wanted[place] != 0:
                links.append((lead, place, wanted[place] * inverse_of(prime, row[place]) % prime))
    return links


def told_further(prime, links, digits):
    """The digits with those that a link tells by one that is told; 0 stands for what is not told."""
    told = list(digits)
    for first, second, many in links:
        if told[second] == 0:
            told[second] = told[first] * many % prime
        elif told[first] == 0:
            told[first] = told[second] * inverse_of(prime, many) % prime
    return told


def digits_by(prime, size, links):
    """Digits that keep to the links, if any do: the first one of those that hang together is free."""
    digits = [0 for _ in range(size)]
    for place in range(size):
        if digits[place] == 0:
            digits = digits[:place] + [1] + digits[place + 1:]
            for _ in range(size):
                digits = told_further(prime, links, digits)
    return tuple(digits)


def scaling_between(one, other):
    """The digits by which the one book comes to the other one, of the same prime and size; None without any."""
    prime, size, _ = one
    digits = digits_by(prime, size, links_between(one, other))
    return digits if scaled_book(one, digits) == other else None


def scaling_of(one, other):
    """The digits by which the one book comes to the other one; None without any."""
    demand(is_like(one, other), "other")
    return scaling_between(one, other)


def moved_book(book, word, k):
    """The book, or for the word mirrored the mirrored one, turned by k."""
    return turned_book(mirrored_book(book) if word == "mirrored" else book, k)


def like_paper(one, other):
    """A paper that both books are alike; None, if they are not."""
    demand(is_like(one, other), "other")
    for word in ("turned", "mirrored"):
        for k in range(one[1]):
            digits = scaling_between(moved_book(one, word, k), other)
            if digits is not None:
                return ("like", word, k, digits)
    return None
