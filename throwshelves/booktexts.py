"""Books and words written as lines."""

from throwshelves.demands import demand
from throwshelves.kinds import is_number


def book_line(book):
    """The line of the book."""
    prime, size, rows = book
    words = [",".join([str(digit) for digit in row]) for row in rows]
    return " ".join(["book", str(prime), str(size), *words])


def word_line(word):
    """The line of any nonempty tuple of numbers."""
    demand(isinstance(word, tuple) and len(word) > 0 and all([is_number(one) for one in word]), "word")
    numbers = [str(one) for one in word]
    return " ".join(["word", *numbers])
