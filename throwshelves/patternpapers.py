"""Papers that show the pattern of a book."""

from throwshelves.bookpatterns import mend_digits, pattern_of


def pattern_paper(book):
    """The pattern of the book, and for each place the multiples of the next columns that come to its own."""
    sums = tuple([mend_digits(book, place) for place in range(book[1])])
    return ("throws", pattern_of(book), sums)
