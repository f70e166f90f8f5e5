"""Books and words read from lines."""

from throwshelves.demands import demand
from throwshelves.errors import InvalidText
from throwshelves.kinds import is_prime, is_size, row_fault
from throwshelves.numberlines import number_in, numbers_in


def word_at(words, field):
    """The word of this index; an empty one, which cannot stand, if it is missing."""
    return words[field] if field < len(words) else ""


def read_book(text):
    """The book that any string writes."""
    demand(isinstance(text, str), "text")
    words = text.split(" ")
    if words[0] != "book":
        raise InvalidText(0, 0)
    prime = number_in(word_at(words, 1))
    if not is_prime(prime):
        raise InvalidText(0, 1)
    size = number_in(word_at(words, 2))
    if not is_size(size):
        raise InvalidText(0, 2)
    return (prime, size, read_rows(prime, size, words[3:]))


def read_rows(prime, size, words):
    """The rows of a book of this prime and size that the words behind both write."""
    rows = ()
    for k, word in enumerate(words):
        row = tuple([number_in(part) for part in word.split(",")])
        if row_fault(prime, size, rows, row) is not None:
            raise InvalidText(0, k + 3)
        rows = rows + (row,)
    return rows


def read_word(text):
    """The nonempty tuple of numbers that any string writes."""
    return numbers_in(text, "word")
