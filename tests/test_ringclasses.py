"""Rings as objects [72], with [65] to [71]."""

import inspect
import random
import unittest

from tests.helpers import (LINES, ODD, PRIMES, THROWS, TWINS, Held, book_fits, factors_fit, integer, number, place_fits,
                           some_book, some_books, words_by_sums)
from throwshelves import ringclasses
from throwshelves.bookclasses import Book
from throwshelves.bookpatterns import pattern_of
from throwshelves.books import checks_of
from throwshelves.bookshelves import book_doubled, book_with_full, book_with_rest, book_without
from throwshelves.errors import Barred
from throwshelves.joins import joined_books
from throwshelves.likebooks import like_paper
from throwshelves.ringclasses import Ring
from throwshelves.shelves import without
from throwshelves.turns import mirrored_book, scaled_book, turned_book

METHODS = ("__init__", "__call__", "__getitem__", "__contains__", "__len__", "__iter__", "__eq__", "mirror", "checks",
           "scaled", "beside", "put", "taken", "alike", "book_now", "pattern_now", "balls_now")
BOOKS = tuple(some_books(86, (1, 3, 4), each=1) + some_books(89, (6, 12), each=1)[1::5]) + (LINES, TWINS)
PUTS = (("rest", book_with_rest), ("full", book_with_full), ("twin", book_doubled))
NO_BOOKS = (Ring(TWINS), (2, 2, ((0, 0),)), (4, 2, ()), (2, 2, ((1, True),)), [2, 2, ()], THROWS, Book(2, 2))


class Making(Held):
    def made(self, one, book):
        self.assertIs(type(one), Ring)
        self.equal(one.book_now, book)
        self.equal(one.pattern_now, pattern_of(book))


class Rings(Making, unittest.TestCase):
    def test_methods_stand_in_the_class(self):
        for name in METHODS:
            self.assertIn(name, vars(Ring))
        for name in METHODS[-3:]:
            self.assertIsInstance(inspect.getattr_static(Ring, name), property)
        self.assertEqual(Ring.__module__, ringclasses.__name__)

    def test_properties_and_items(self):
        for book in BOOKS:
            one, throws = Ring(book), pattern_of(book)
            self.equal([one.book_now, one.pattern_now, one.balls_now], [book, throws, len(book[2])])
            self.equal([len(one), list(one), [one[place] for place in range(book[1])]],
                       [book[1], list(throws), list(throws)])
        self.made(Ring(book=LINES), LINES)

    def test_what_is_in_it(self):
        for book in (TWINS, LINES, (3, 2, ()), (2, 1, ((1,),))):
            one, words = Ring(book), words_by_sums(book)
            for word in words:
                self.assertIs(word in one, True)
                self.assertIs(list(word) in one, False)
                self.assertIs(tuple(bool(digit) for digit in word) in one, False)
                self.assertIs(word + (0,) in one, False)
                self.assertIs(((word[0] + 1) % book[0],) + word[1:] in one, ((word[0] + 1) % book[0],) + word[1:] in words)
        one = Ring(TWINS)
        for thing in ODD + ((1, 1, 0), (1, 1, 0, 3), (1, 1, 0, -1), one, TWINS):
            self.assertIs(thing in one, False)

    def test_iterated_twice_at_once(self):
        one = Ring(TWINS)
        self.assertEqual([(a, b) for a in one for b in one], [(a, b) for a in THROWS for b in THROWS])

    def test_equal(self):
        one = Ring(TWINS)
        self.assertIs(one == Ring(TWINS), True)
        self.assertIs(one != Ring(TWINS), False)
        for other in ODD + (TWINS, Ring(LINES), Ring((2, 4, ())), Book.of(TWINS), THROWS, one(1)):
            self.assertIs(one == other, False)
            self.assertIs(other == one, False)
            self.assertIs(one != other, True)

    def test_made_refuses(self):
        for thing in ODD + NO_BOOKS:
            if not book_fits(thing):
                self.unusable("book", Ring, thing)
                self.unusable("book", Ring, book=thing)

    def test_items_refuse(self):
        one = Ring(TWINS)
        for at in ODD + (4, -1, "0", (0,), slice(None)):
            if not place_fits(4, at):
                self.unusable("place", lambda place: one[place], at)


class Made(Making, unittest.TestCase):
    def test_turns_mirrors_checks_scaled(self):
        chance = random.Random(87)
        for book in BOOKS:
            one = Ring(book)
            for k in (0, 1, -1, book[1], 10 ** 59, -3 ** 90):
                self.made(one(k), turned_book(book, k))
            self.made(one(k=2), turned_book(book, 2))
            self.made(one.mirror(), mirrored_book(book))
            self.made(one.checks(), checks_of(book))
            digits = tuple(chance.randrange(1, book[0]) for _ in range(book[1]))
            self.made(one.scaled(digits), scaled_book(book, digits))
            self.made(one.scaled(digits=digits), scaled_book(book, digits))
            self.made(one, book)

    def test_beside(self):
        for book in BOOKS[::2]:
            for other in BOOKS[::3]:
                if book[0] == other[0]:
                    self.made(Ring(book).beside(Ring(other)), joined_books(book, other))
                    self.made(Ring(book).beside(other=Ring(other)), joined_books(book, other))
                else:
                    self.unusable("other", Ring(book).beside, Ring(other))

    def test_put_and_taken(self):
        for book in BOOKS:
            one = Ring(book)
            for kind, put in PUTS:
                for place in range(book[1] + (kind != "twin")):
                    more = one.put(kind, place)
                    self.made(more, put(book, place))
                    self.assertTrue(more.taken(place) == one)
                    self.assertTrue(one.put(place=place, kind=kind).taken(place=place) == one)

    def test_taken(self):
        for book in BOOKS:
            for place in range(book[1]):
                try:
                    without(pattern_of(book), place)
                except Barred as error:
                    self.refused("Barred", {"bar": error.bar}, Ring(book).taken, place)
                    self.refused("Barred", {"bar": (place, 1)}, Ring(book).taken, place=place)
                    continue
                self.made(Ring(book).taken(place), book_without(book, place))

    def test_alike(self):
        chance = random.Random(88)
        for prime in PRIMES:
            books = [some_book(chance, prime, 4, chance.randint(1, 3)) for _ in range(4)]
            for book in books:
                for other in books + [turned_book(mirrored_book(book), 3)]:
                    self.assertIs(Ring(book).alike(Ring(other)), like_paper(book, other) is not None)
                    self.assertIs(Ring(book).alike(other=Ring(other)), like_paper(book, other) is not None)

    def test_refused(self):
        one = Ring(TWINS)
        for thing in ODD + NO_BOOKS[1:] + (TWINS, 4, 5, -1, (1, 1, 1), (1, 1, 1, 0), (1, 1, 1, True), [1, 1, 1, 1]):
            if not integer(thing):
                self.unusable("k", one, thing)
            if not factors_fit(2, 4, thing):
                self.unusable("digits", one.scaled, thing)
            self.unusable("other", one.beside, thing)
            self.unusable("other", one.alike, thing)
            if not place_fits(4, thing):
                self.unusable("place", one.taken, thing)
                self.unusable("place", one.put, "twin", thing)
            if not (number(thing) and thing <= 4):
                self.unusable("place", one.put, "rest", thing)
                self.unusable("place", one.put, "full", thing)
            self.unusable("kind", one.put, thing, 0)
            self.unusable("kind", one.put, thing, None)
        for kind in ("Rest", "rest ", "doubled", "", "bridge", ("rest",), one):
            self.unusable("kind", one.put, kind, 0)
            self.unusable("kind", one.put, place=9, kind=kind)
        for other in (Ring(LINES), Ring((3, 4, ()))):
            self.unusable("other", one.beside, other)
            self.unusable("other", one.alike, other)
        for other in (Ring((2, 3, ())), Ring((2, 5, ()))):
            self.unusable("other", one.alike, other)
        self.made(one, TWINS)


if __name__ == "__main__":
    unittest.main()
