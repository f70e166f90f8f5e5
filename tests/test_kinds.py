"""Which values are of which kind [2], [4], [5], [14]."""

import unittest

from tests.helpers import (LINES, ODD, PRIMES, TWINS, Held, all_books, integer, number, places_fit, prime_fits, same,
                           size_fits, some_books, stretch_fits, word_fits)
from throwshelves.kinds import (is_book, is_digit, is_integer, is_number, is_places, is_prime, is_stretch, is_word)

MANY = ODD + PRIMES + tuple(range(-2, 20)) + (
    (0, 1), (1, 0), (0, 0), (3, 4), (4, 0), (0, 5), (0, 4), (3, 0), (0, 3), (0, 1, 2, 3), (0, 2, 1), (0, 1, 1), (3,), (4,),
    [0, 1], (0, 1, 0), (1, 1, 1), (0, 0, 2), (True, 1, 1), ("0", 1, 1), ((0,), 1, 1), (0, 1, None), 10 ** 59 - 1)


class Kinds(Held, unittest.TestCase):
    def test_integers_numbers_primes(self):
        for thing in MANY:
            self.equal(is_integer(thing), integer(thing), thing)
            self.equal(is_number(thing), number(thing), thing)
            self.equal(is_prime(thing), prime_fits(thing), thing)
        self.assertEqual([one for one in range(-20, 40) if is_prime(one)], [2, 3, 5, 7, 11, 13])
        self.assertFalse(is_prime(17) or is_prime(1) or is_prime(4) or is_prime(True) or is_prime("2"))

    def test_digits(self):
        for prime in MANY:
            for thing in MANY:
                self.equal(is_digit(prime, thing), prime_fits(prime) and number(thing) and thing < prime)
        for prime in PRIMES:
            self.assertEqual([one for one in range(-3, 20) if is_digit(prime, one)], list(range(prime)))

    def test_words(self):
        for prime in MANY:
            for size in MANY:
                for thing in MANY:
                    fits = prime_fits(prime) and size_fits(size) and word_fits(prime, size, thing)
                    self.assertIs(is_word(prime, size, thing), fits)

    def test_words_of_true(self):
        self.assertTrue(is_word(2, 2, (0, 1)))
        for word in ((0, True), (False, 1), [0, 1], (0, 2), (0, -1), (0,), (0, 1, 1), (), None, (0, "1"), (0, (1,))):
            self.assertIs(is_word(2, 2, word), False)
        self.assertIs(is_word(True, 1, (0,)), False)
        self.assertIs(is_word(2, True, (0,)), False)
        self.assertIs(is_word(2, 0, ()), False)

    def test_stretches_and_places(self):
        for size in MANY:
            for thing in MANY:
                fits = size_fits(size)
                self.assertIs(is_stretch(size, thing), fits and stretch_fits(size, thing))
                self.assertIs(is_places(size, thing), fits and places_fit(size, thing))

    def test_ends_of_stretches_and_places(self):
        for thing in ((0, 0), (3, 0), (0, 4), (3, 4)):
            self.assertIs(is_stretch(4, thing), True)
        for thing in ((4, 0), (0, 5), (-1, 0), (0, -1), (0, 0, 0), (0,), [0, 0], (True, 1), (1, True), (False, 0), None):
            self.assertIs(is_stretch(4, thing), False)
        for thing in ((), (0,), (3,), (0, 3), (0, 1, 2, 3)):
            self.assertIs(is_places(4, thing), True)
        for thing in ((3, 0), (0, 0), (4,), (-1,), (0, True), (False,), [0], None, 0, (0, 1, 1)):
            self.assertIs(is_places(4, thing), False)

    def test_great_sizes(self):
        great = 10 ** 59
        self.assertIs(is_book((2, great, ())), True)
        self.assertIs(is_stretch(great, (great - 1, great)), True)
        self.assertIs(is_stretch(great, (great, 0)), False)
        self.assertIs(is_places(great, (3, great - 1)), True)
        self.assertIs(is_word(2, great, (0, 1)), False)

    def test_books(self):
        for prime, size in ((2, 1), (2, 2), (2, 3), (3, 1), (3, 2), (5, 2), (13, 1)):
            for book in all_books(prime, size):
                self.assertIs(is_book(book), True)
        for book in some_books(1, (1, 4, 20)):
            self.assertIs(is_book(book), True)

    def test_all_tuples_of_rows(self):
        # Of all pairs of words of three places the ones in settled form are those of the list of all books.
        words = [(a, b, c) for a in range(3) for b in range(3) for c in range(3)]
        books = all_books(3, 3)
        for one in words:
            self.assertIs(is_book((3, 3, (one,))), (3, 3, (one,)) in books)
            for other in words:
                self.assertIs(is_book((3, 3, (one, other))), (3, 3, (one, other)) in books)

    def test_no_books(self):
        for thing in ODD:
            self.assertIs(is_book(thing), same(thing, (2, 4, ())))
        for thing in (list(LINES), LINES[:2], LINES + (0,), (True, 4, ()), (2, True, ()), (17, 4, ()), (2, 0, ()),
                      (2, -1, ()), (2, 4, []), (2, 4, None), (2, 2, ([1, 0],)), (2, 2, ((True, 0),)),
                      (2, 2, ((0, 0),)), (3, 2, ((2, 0),)), (2, 2, ((0, 1), (1, 0))), (2, 2, ((1, 0), (1, 0))),
                      (2, 2, ((1, 1), (0, 1))), (2, 2, ((1, 0, 0),)), (2, 2, (1, 0)), (2, 2, ((1, 0), None))):
            self.assertIs(is_book(thing), False)
        self.assertIs(is_book(TWINS), True)

    def test_by_name(self):
        self.assertTrue(is_integer(thing=3) and is_number(thing=0) and is_prime(thing=2) and is_book(thing=TWINS))
        self.assertTrue(is_digit(thing=1, prime=2) and is_word(thing=(1, 0), size=2, prime=2))
        self.assertTrue(is_stretch(thing=(0, 2), size=2) and is_places(thing=(0, 1), size=2))


if __name__ == "__main__":
    unittest.main()
