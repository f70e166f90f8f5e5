"""Books as objects."""

from throwshelves.bookchecker import lets_book
from throwshelves.bookreadings import read_book
from throwshelves.books import checks_of, common, has_word, rank_of, span_of, together
from throwshelves.booktexts import book_line
from throwshelves.columns import column_of, columns_of, stretch_rank
from throwshelves.demands import demand
from throwshelves.errors import NotUsable
from throwshelves.kinds import is_prime, is_size, is_word


def told_book(thing):
    """The book of a Book; None, which is no book of any prime and size, for other values."""
    return thing.book_now if isinstance(thing, Book) else None


class Book:
    """The book of all sums of multiples of these words; it never changes."""

    def __init__(self, prime, size, *words):
        demand(is_prime(prime), "prime")
        demand(is_size(size), "size")
        for k, word in enumerate(words):
            if not is_word(prime, size, word):
                raise NotUsable("words", k)
        self._book = span_of(prime, size, words)
        self._rows = self._book[2]

    @staticmethod
    def of(thing):
        """The Book of any value that is a book."""
        lets_book(thing)
        prime, size, rows = thing
        return Book(prime, size, *rows)

    @staticmethod
    def read(text):
        """The Book that any string writes."""
        prime, size, rows = read_book(text)
        return Book(prime, size, *rows)

    @property
    def book_now(self):
        """The book."""
        return self._book

    @property
    def rank_now(self):
        """Its rank."""
        return rank_of(self._book)

    @property
    def columns_now(self):
        """The columns of all places."""
        return columns_of(self._book)

    def __getitem__(self, at):
        return column_of(self._book, at)

    def __call__(self, stretch):
        return stretch_rank(self._book, stretch)

    def __contains__(self, x):
        prime, size, _ = self._book
        return is_word(prime, size, x) and has_word(self._book, x)

    def __len__(self):
        return len(range(self._book[1]))

    def __iter__(self):
        return iter(self._rows)

    def __str__(self):
        return str(book_line(self._book))

    def __eq__(self, other):
        return isinstance(other, Book) and self._book == other._book

    def __add__(self, other):
        prime, size, rows = together(self._book, told_book(other))
        return Book(prime, size, *rows)

    def __and__(self, other):
        prime, size, rows = common(self._book, told_book(other))
        return Book(prime, size, *rows)

    def __invert__(self):
        prime, size, rows = checks_of(self._book)
        return Book(prime, size, *rows)
