"""Rings of shelves, each with its book, as objects."""

from throwshelves.bookpatterns import pattern_of
from throwshelves.books import checks_of, has_word
from throwshelves.bookshelves import book_doubled, book_with_full, book_with_rest, book_without
from throwshelves.demands import demand
from throwshelves.joins import joined_books
from throwshelves.kinds import is_book, is_place, is_word
from throwshelves.likebooks import like_paper
from throwshelves.patterns import balls_of
from throwshelves.turns import mirrored_book, scaled_book, turned_book


def book_in(thing):
    """The book of a Ring; None, which is no book of any prime and size, for other values."""
    return thing.book_now if isinstance(thing, Ring) else None


class Ring:
    """The ring of the places of a book; it never changes."""

    def __init__(self, book):
        demand(is_book(book), "book")
        self._book = book
        self._throws = pattern_of(book)

    @property
    def book_now(self):
        """The book."""
        return self._book

    @property
    def pattern_now(self):
        """The pattern of the book."""
        return self._throws

    @property
    def balls_now(self):
        """How many balls the pattern has."""
        return balls_of(self._throws)

    def mirror(self):
        """The Ring of the mirrored book."""
        return Ring(mirrored_book(self._book))

    def checks(self):
        """The Ring of the checks."""
        return Ring(checks_of(self._book))

    def scaled(self, digits):
        """The Ring of the book whose columns are multiplied by these digits."""
        return Ring(scaled_book(self._book, digits))

    def beside(self, other):
        """The Ring of this one's places and, behind them, those of another Ring."""
        return Ring(joined_books(self._book, book_in(other)))

    def put(self, kind, place):
        """The Ring with a shelf more of this kind."""
        if kind == "rest":
            return Ring(book_with_rest(self._book, place))
        if kind == "full":
            return Ring(book_with_full(self._book, place))
        demand(kind == "twin", "kind")
        return Ring(book_doubled(self._book, place))

    def taken(self, place):
        """The Ring without the shelf at the place."""
        return Ring(book_without(self._book, place))

    def alike(self, other):
        """Whether the book and that of another Ring are alike."""
        return like_paper(self._book, book_in(other)) is not None

    def __call__(self, k):
        return Ring(turned_book(self._book, k))

    def __getitem__(self, at):
        demand(is_place(len(self._throws), at), "place")
        return self._throws[at]

    def __contains__(self, x):
        prime, size, _ = self._book
        return is_word(prime, size, x) and has_word(self._book, x)

    def __len__(self):
        return len(self._throws)

    def __iter__(self):
        return iter(self._throws)

    def __eq__(self, other):
        return isinstance(other, Ring) and self._book == other._book
