"""Books as objects [22]."""

import inspect
import unittest
from itertools import product

from tests.helpers import (LINES, ODD, TWINS, Held, fields_of, same, small_books, some_books, stretch_fits, word_fits,
                           words_by_sums)
from throwshelves import bookclasses, books, columns, errors
from throwshelves.bookclasses import Book
from throwshelves.bookchecker import lets_book
from throwshelves.bookreadings import read_book
from throwshelves.booktexts import book_line
from throwshelves.patternclasses import Pattern

METHODS = ("__init__", "__getitem__", "__call__", "__contains__", "__len__", "__iter__", "__str__", "__eq__", "__add__",
           "__and__", "__invert__", "of", "read", "book_now", "rank_now", "columns_now")


class Books(Held, unittest.TestCase):
    def test_methods_stand_in_the_class(self):
        for name in METHODS:
            self.assertIn(name, vars(Book))
        for name in ("of", "read"):
            self.assertIsInstance(inspect.getattr_static(Book, name), staticmethod)
        for name in ("book_now", "rank_now", "columns_now"):
            self.assertIsInstance(inspect.getattr_static(Book, name), property)
        self.assertEqual(Book.__module__, bookclasses.__name__)

    def test_made(self):
        for prime, size in ((2, 1), (2, 2), (3, 2), (13, 1)):
            for words in product(product(range(prime), repeat=size), repeat=2):
                one = Book(prime, size, *words)
                self.equal(one.book_now, books.span_of(prime, size, words))
        self.equal(Book(3, 2).book_now, (3, 2, ()))
        self.equal(Book(size=2, prime=3).book_now, (3, 2, ()))

    def test_properties_and_items(self):
        for book in small_books() + some_books(13, (1, 6, 12)):
            one = Book(*book[:2], *book[2])
            self.equal(one.book_now, book)
            self.equal(one.rank_now, len(book[2]))
            self.equal(one.columns_now, columns.columns_of(book))
            self.equal(len(one), book[1])
            self.equal(list(one), list(book[2]))
            self.equal(str(one), book_line(book))
            self.equal([one[place] for place in range(book[1])], list(columns.columns_of(book)))
            for start in range(book[1]):
                for length in (0, 1, book[1]):
                    self.equal(one((start, length)), columns.stretch_rank(book, (start, length)))
                    self.equal(one(stretch=(start, length)), one((start, length)))

    def test_no_rows(self):
        one = Book(5, 3)
        self.equal([len(one), list(one), one.rank_now, one.columns_now], [3, [], 0, ((), (), ())])
        self.assertTrue((0, 0, 0) in one and (0, 0, 1) not in one)

    def test_words_in_it(self):
        for book in (LINES, TWINS, (3, 2, ()), (3, 2, ((1, 2),)), (2, 1, ((1,),))):
            one, words = Book.of(book), words_by_sums(book)
            for word in product(range(book[0]), repeat=book[1]):
                self.assertIs(word in one, word in words)
                self.assertIs(list(word) in one, False)
            for thing in ODD + (one, (True, 0, 0, 0), (False, 0, 0, 0), (0, 0, 0), (0,) * 5):
                if type(thing) is not tuple or not word_fits(book[0], book[1], thing):
                    self.assertIs(thing in one, False)

    def test_equal(self):
        one = Book.of(TWINS)
        self.assertIs(one == Book(2, 4, (1, 1, 1, 0), (0, 0, 1, 1)), True)
        self.assertIs(one != Book(2, 4, (1, 1, 1, 0), (0, 0, 1, 1)), False)
        for other in ODD + (TWINS, list(TWINS), Book.of(LINES), Book(2, 4), Book(3, 4), Book(2, 3), Pattern(1, 2, 2, 3)):
            self.assertIs(one == other, False)
            self.assertIs(other == one, False)
            self.assertIs(one != other, True)

    def test_operators(self):
        pairs = [(Book.of(one), Book.of(other)) for size in (1, 2, 3) for one in small_books() for other in small_books()
                 if one[:2] == other[:2] == (2, size)]
        for one, other in pairs:
            kept = (one.book_now, other.book_now)
            both, shared, checks = one + other, one & other, ~one
            self.assertEqual([type(made) for made in (both, shared, checks)], [Book, Book, Book])
            self.equal(both.book_now, books.together(*kept))
            self.equal(shared.book_now, books.common(*kept))
            self.equal(checks.book_now, books.checks_of(kept[0]))
            self.equal((one.book_now, other.book_now), kept)
            self.assertTrue(~(one + other) == (~one & ~other) and ~~one == one)

    def test_operators_refuse(self):
        one = Book.of(TWINS)
        for other in ODD + (TWINS, Book.of(LINES), Book(2, 3), Book(3, 4), Pattern(1, 1), errors.NotUsable("x", 0)):
            self.unusable("other", lambda thing: one + thing, other)
            self.unusable("other", lambda thing: one & thing, other)

    def test_items_refuse(self):
        one = Book.of(TWINS)
        for thing in ODD + (4, -1, (3,), one, "3"):
            if type(thing) is not int or not 0 <= thing < 4:
                self.unusable("place", lambda at: one[at], thing)
            if not stretch_fits(4, thing):
                self.unusable("stretch", one, thing)
        self.unusable("stretch", one, stretch=(4, 0))

    def test_made_refuses(self):
        for prime in (True, None, 4, 17, "2", [2], -2):
            self.unusable("prime", Book, prime, 0, None)
        for size in (True, None, 0, -1, "2", (2,)):
            self.unusable("size", Book, 2, size, None)
        good = (1, 0)
        for thing in ODD + ((1, 2), (1,), (1, 0, 0), [1, 0], (True, 0), (1, "0")):
            if not word_fits(2, 2, thing):
                self.refused("NotUsable", {"word": "words", "at": 0}, Book, 2, 2, thing)
                self.refused("NotUsable", {"word": "words", "at": 2}, Book, 2, 2, good, good, thing, None)

    def test_of(self):
        for book in small_books():
            one = Book.of(thing=book)
            self.assertIs(type(one), Book)
            self.equal(one.book_now, book)
        for thing in ODD + ((2, 2, ((0, 0),)), (2, 2, ((0, 1), (1, 0))), (4, 2, ()), Book.of(TWINS), (2, 2, [])):
            if same(thing, (2, 4, ())):
                continue
            with self.assertRaises(errors.InvalidPaper) as wanted:
                lets_book(thing)
            name, fields = fields_of(wanted.exception)
            self.refused(name, fields, Book.of, thing)

    def test_read(self):
        for line in ("book 2 4 1,1,0,1 0,0,1,1", "book 3 1", "book 7 4 1,0,6,5 0,1,2,3"):
            one = Book.read(text=line)
            self.assertIs(type(one), Book)
            self.equal(one.book_now, read_book(line))
            self.equal(str(one), line)
        self.unusable("text", Book.read, 3)
        self.refused("InvalidText", {"line": 0, "field": 4}, Book.read, "book 2 2 0,1 1,0")
        self.equal(str(Book.read("book 2 " + "9" * 60)), "book 2 " + "9" * 60)

    def test_called_on_objects(self):
        one = Book.of(TWINS)
        self.assertTrue(one.of(LINES) == Book.of(LINES) and one.read("book 3 1") == Book(3, 1))


if __name__ == "__main__":
    unittest.main()
