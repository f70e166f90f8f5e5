"""The checker of books [15]."""

import unittest

from tests.helpers import LINES, ODD, TWINS, Held, same, small_books, some_books
from throwshelves.bookchecker import lets_book
from throwshelves.errors import InvalidPaper
from throwshelves.kinds import is_book


class BookChecker(Held, unittest.TestCase):
    def test_ranks(self):
        for book in small_books() + some_books(2, (1, 5, 12, 20)):
            self.equal(lets_book(book), len(book[2]))
        self.equal(lets_book((13, 1, ())), 0)
        self.equal(lets_book((13, 1, ((1,),))), 1)
        self.equal(lets_book(thing=LINES), 2)
        self.equal(lets_book((2, 10 ** 59, ())), 0)

    def test_shape(self):
        for thing in (None, 2, "book", (), (2,), (2, 4), (2, 4, (), ()), list(TWINS), [2, 4, ()], True):
            self.invalid("shape", -1, lets_book, thing)

    def test_prime(self):
        for prime in (True, False, None, "2", 0, 1, 4, 6, 8, 9, 10, 12, 14, 17, -2, (2,), [2], 10 ** 59):
            self.invalid("prime", -1, lets_book, (prime, 4, ()))

    def test_size(self):
        for size in (True, False, None, "4", 0, -1, (4,), -10 ** 59):
            self.invalid("size", -1, lets_book, (2, size, ()))

    def test_rows(self):
        for rows in (None, [], [(1, 0)], 0, True, "()", "1,0"):
            self.invalid("rows", -1, lets_book, (2, 2, rows))

    def test_row(self):
        for row in (None, (), (1,), (1, 0, 0), (1, 2), (1, -1), (1, True), (False, 1), [1, 0], (1, "0"), "10", 1):
            self.invalid("row", 0, lets_book, (2, 2, (row,)))
            self.invalid("row", 1, lets_book, (2, 2, ((1, 0), row)))
        self.invalid("row", 0, lets_book, (2, 10 ** 59, ((1,),)))

    def test_nought(self):
        self.invalid("nought", 0, lets_book, (2, 2, ((0, 0),)))
        self.invalid("nought", 2, lets_book, (2, 2, ((1, 0), (0, 1), (0, 0))))

    def test_lead(self):
        for lead in (2, 3, 4):
            self.invalid("lead", 0, lets_book, (5, 2, ((lead, 1),)))
            self.invalid("lead", 1, lets_book, (5, 3, ((1, 0, 0), (0, 0, lead))))

    def test_order(self):
        self.invalid("order", 1, lets_book, (2, 2, ((0, 1), (1, 0))))
        self.invalid("order", 1, lets_book, (2, 2, ((1, 0), (1, 0))))
        self.invalid("order", 2, lets_book, (2, 3, ((1, 0, 0), (0, 0, 1), (0, 1, 0))))

    def test_clear(self):
        self.invalid("clear", (1, 0), lets_book, (2, 3, ((1, 1, 0), (0, 1, 1))))
        self.invalid("clear", (2, 1), lets_book, (2, 3, ((1, 0, 0), (0, 1, 1), (0, 0, 1))))
        self.invalid("clear", (2, 0), lets_book, (3, 3, ((1, 0, 2), (0, 1, 1), (0, 0, 1))))

    def test_what_comes_first(self):
        self.invalid("shape", -1, lets_book, (4, 0, None, None))
        self.invalid("prime", -1, lets_book, (4, 0, None))
        self.invalid("size", -1, lets_book, (2, 0, None))
        self.invalid("rows", -1, lets_book, (2, 2, [(0, 0)]))
        self.invalid("row", 1, lets_book, (5, 2, ((1, 0), (5, 0), (0, 0))))
        self.invalid("nought", 1, lets_book, (5, 2, ((1, 0), (0, 0), (1,))))
        self.invalid("lead", 1, lets_book, (5, 2, ((1, 0), (2, 0))))
        self.invalid("order", 1, lets_book, (5, 2, ((1, 1), (1, 0))))
        self.invalid("order", 1, lets_book, (5, 3, ((0, 1, 1), (1, 0, 0))))
        self.invalid("clear", (1, 0), lets_book, (5, 3, ((1, 1, 0), (0, 1, 0), (0, 0, 0))))
        self.invalid("lead", 0, lets_book, (5, 2, ((2, 0), None)))
        self.invalid("lead", 1, lets_book, (5, 3, ((1, 2, 0), (0, 2, 0))))

    def test_agrees_with_is_book(self):
        for thing in ODD:
            if same(thing, (2, 4, ())):
                self.equal(lets_book(thing), 0)
                continue
            self.assertFalse(is_book(thing))
            with self.assertRaises(InvalidPaper):
                lets_book(thing)


if __name__ == "__main__":
    unittest.main()
