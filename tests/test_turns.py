"""Patterns of checks, rings turned and mirrored, and columns multiplied [63] to [66], with [10] (G4)."""

import random
import unittest
from functools import cache
from itertools import product

from tests.helpers import (LINES, ODD, PRIMES, THROWS, TWINS, Held, factors_fit, integer, patterns_by_orders, small_books,
                           some_books, some_patterns, words_by_sums)
from throwshelves.bookpatterns import pattern_of
from throwshelves.books import checks_of
from throwshelves.bridges import book_of
from throwshelves.duals import checks_pattern
from throwshelves.patterns import balls_of, is_throws
from throwshelves.turns import mirrored_book, mirrored_pattern, scaled_book, turned_book, turned_pattern

FAR = (10 ** 59, -10 ** 59, 10 ** 60 - 1, 1 - 10 ** 60, 3 ** 125, -7 ** 70)


@cache
def many_patterns():
    return [p for size in (1, 2, 3, 4, 5) for p in patterns_by_orders(size)] + some_patterns(60, (6, 9, 12), each=4)


@cache
def few_books():
    return small_books()[::3] + [LINES, TWINS]


def greater_books():
    return some_books(61, (5, 6, 12), each=1)


def placed(row, step):
    """The row in which what is at i stands at the place that step tells."""
    found = [None] * len(row)
    for i, one in enumerate(row):
        found[step(i) % len(row)] = one
    return tuple(found)


class Checks(Held, unittest.TestCase):
    def test_by_landings(self):
        for pattern in many_patterns():
            size, throws = len(pattern), checks_pattern(pattern)
            for i, throw in enumerate(pattern):
                self.assertEqual(throws[(i + throw) % size], size - throw)
            self.equal(throws, tuple(throws))
            self.assertTrue(is_throws(throws))

    def test_the_pattern_of_the_checks(self):
        for book in small_books() + greater_books():
            self.equal(checks_pattern(pattern_of(book)), pattern_of(checks_of(book)))

    def test_consequences(self):
        for pattern in many_patterns():
            size, checks = len(pattern), checks_pattern(pattern)
            self.equal(checks_pattern(checks), pattern)
            self.equal(balls_of(checks), size - balls_of(pattern))
            for k in range(size):
                self.equal(checks_pattern(turned_pattern(pattern, k)), turned_pattern(checks, k))
            self.equal(checks_pattern(mirrored_pattern(pattern)), mirrored_pattern(checks))


class Turns(Held, unittest.TestCase):
    def test_patterns(self):
        for pattern in many_patterns():
            size = len(pattern)
            for k in tuple(range(-2 * size, 2 * size + 1)) + FAR:
                wanted = placed(pattern, lambda i: i + k)
                self.equal(turned_pattern(pattern, k), wanted)
                self.assertTrue(is_throws(wanted))
            self.equal(turned_pattern(pattern=pattern, k=size), pattern)

    def test_books_by_words(self):
        for book in few_books():
            prime, size, rows = book
            for k in tuple(range(-size, size + 2)) + FAR[:2]:
                other = turned_book(book, k)
                self.assertEqual(words_by_sums(other), {placed(word, lambda i: i + k) for word in words_by_sums(book)})
                self.equal((other[:2], len(other[2])), ((prime, size), len(rows)))
                self.equal(turned_book(other, -k), book)

    def test_patterns_of_books(self):
        for book in few_books() + greater_books():
            pattern = pattern_of(book)
            for k in (-10 ** 59, -1, 0, 1, 2, book[1], 10 ** 59):
                self.equal(pattern_of(turned_book(book, k)), turned_pattern(pattern, k))

    def test_patterns_over_all_primes(self):
        for pattern in some_patterns(62, (1, 2, 5, 6), each=3):
            for prime in PRIMES:
                book = book_of(pattern, prime)
                self.equal(pattern_of(turned_book(book, -2)), turned_pattern(pattern, -2))
                self.equal(pattern_of(mirrored_book(book)), mirrored_pattern(pattern))
                self.equal(pattern_of(checks_of(book)), checks_pattern(pattern))

    def test_refused(self):
        for k in ODD + ("1", (1,), [1]):
            if not integer(k):
                self.unusable("k", turned_pattern, THROWS, k)
                self.unusable("k", turned_book, TWINS, k)
                self.unusable("k", turned_book, book=TWINS, k=k)


class Mirrors(Held, unittest.TestCase):
    def test_patterns(self):
        for pattern in many_patterns():
            size, other = len(pattern), mirrored_pattern(pattern)
            for i, throw in enumerate(pattern):
                self.assertEqual(other[-(i + throw) % size], throw)
            self.assertTrue(is_throws(other))
            self.equal(mirrored_pattern(other), pattern)
            for k in range(size):
                self.equal(turned_pattern(other, k), mirrored_pattern(turned_pattern(pattern, -k)))

    def test_books_by_words(self):
        for book in few_books():
            other = mirrored_book(book)
            self.assertEqual(words_by_sums(other), {placed(word, lambda i: -i) for word in words_by_sums(book)})
            self.equal(other[:2], book[:2])
            self.equal(mirrored_book(other), book)

    def test_patterns_of_books(self):
        for book in small_books() + greater_books():
            self.equal(pattern_of(mirrored_book(book)), mirrored_pattern(pattern_of(book)))

    def test_mirrored_and_turned(self):
        for book in few_books()[::2] + greater_books():
            for k in (-3, 1, 2, 10 ** 59):
                self.equal(turned_book(mirrored_book(book), k), mirrored_book(turned_book(book, -k)))


class Scaled(Held, unittest.TestCase):
    def test_by_words(self):
        for book in few_books():
            prime, size, _ = book
            words = words_by_sums(book)
            for digits in list(product(range(1, prime), repeat=size))[::max(1, (prime - 1) ** size // 5)]:
                wanted = {tuple(a * b % prime for a, b in zip(word, digits)) for word in words}
                other = scaled_book(book, digits)
                self.assertEqual(words_by_sums(other), wanted)
                self.equal(other[:2], book[:2])

    def test_the_pattern_stays(self):
        chance = random.Random(63)
        for book in small_books() + greater_books():
            digits = tuple(chance.randrange(1, book[0]) for _ in range(book[1]))
            self.equal(pattern_of(scaled_book(book, digits)), pattern_of(book))
            back = tuple(pow(digit, -1, book[0]) for digit in digits)
            self.equal(scaled_book(scaled_book(book, digits), back), book)
            self.equal(scaled_book(book, (1,) * book[1]), book)

    def test_refused(self):
        for digits in ODD + ((1, 2, 3), (1, 2, 3, 0), (1, 2, 3, 7), (1, 2, 3, -1), (1, 2, 3, True), [1, 2, 3, 4],
                             (1, 2, 3, 4, 5), (1, 2, 3, None), ((1,), 2, 3, 4)):
            if not factors_fit(7, 4, digits):
                self.unusable("digits", scaled_book, LINES, digits)
                self.unusable("digits", scaled_book, book=LINES, digits=digits)


if __name__ == "__main__":
    unittest.main()
