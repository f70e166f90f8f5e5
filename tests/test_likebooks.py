"""Books that are alike, with their papers and the checker of these [71], with [63], [65]."""

import random
import unittest
from functools import cache
from itertools import product

from tests.helpers import (LINES, ODD, PRIMES, TWINS, Held, all_books, factors_fit, place_fits, same, some_book,
                           some_books, words_by_sums)
from throwshelves.bookpatterns import pattern_of
from throwshelves.likebooks import like_paper, scaling_of
from throwshelves.likechecker import lets_like
from throwshelves.turns import mirrored_book, scaled_book, turned_book

OTHER = (7, 4, ((1, 0, 4, 6), (0, 1, 3, 6)))
NO_BOOKS = (TWINS, (7, 3, ()), (7, 5, ()), (7, 4, ((0, 0, 0, 0),)), (7, 4, ((True, 0, 0, 0),)), [7, 4, ()], (7, 4))


@cache
def words_of(book):
    return frozenset(words_by_sums(book))


@cache
def scaled_words(book):
    """For all digits the words multiplied by them, place by place."""
    prime, size, _ = book
    found = {}
    for digits in product(range(1, prime), repeat=size):
        words = frozenset(tuple(a * b % prime for a, b in zip(word, digits)) for word in words_of(book))
        found.setdefault(words, []).append(digits)
    return found


@cache
def moved(book, word, k):
    """The words of the book, mirrored if the word tells so, and turned by k."""
    size = book[1]
    found = set()
    for one in words_of(book):
        if word == "mirrored":
            one = tuple(one[-at % size] for at in range(size))
        found.add(tuple(one[(at - k) % size] for at in range(size)))
    return frozenset(found)


@cache
def scaled_sets(prime, words):
    """The sets of words that these come to by all digits."""
    size = len(next(iter(words)))
    return {frozenset(tuple(a * b % prime for a, b in zip(word, digits)) for word in words)
            for digits in product(range(1, prime), repeat=size)}


def are_alike(one, other):
    return any(words_of(other) in scaled_sets(one[0], moved(one, word, k))
               for word in ("turned", "mirrored") for k in range(one[1]))


def book_moved(book, word, k, digits):
    return scaled_book(turned_book(mirrored_book(book) if word == "mirrored" else book, k), digits)


class Scalings(Held, unittest.TestCase):
    def test_against_all_digits(self):
        told = {True: 0, False: 0}
        for prime, sizes in ((2, (1, 2, 3)), (3, (1, 2, 3)), (5, (1, 2)), (7, (2,))):
            for size in sizes:
                books = all_books(prime, size)
                for one in books:
                    for other in books:
                        digits = scaling_of(one, other)
                        right = scaled_words(one).get(words_of(other), [])
                        told[digits is None] += 1
                        if digits is None:
                            self.assertEqual(right, [])
                        else:
                            self.assertIn(digits, right)
                            self.assertTrue(factors_fit(prime, size, digits))
        self.assertGreater(min(told.values()), 100)

    def test_four_places(self):
        chance = random.Random(81)
        books = all_books(3, 4)
        for one in chance.sample(books, 30):
            for other in chance.sample(books, 10) + [scaled_book(one, (1, 2, 2, 1)), scaled_book(one, (2, 1, 1, 1))]:
                digits, right = scaling_of(one, other), scaled_words(one).get(words_of(other), [None])
                self.assertIn(digits, right)

    def test_greater_books(self):
        chance = random.Random(82)
        for one in some_books(83, (5, 9, 12), each=2):
            prime, size, _ = one
            other = scaled_book(one, tuple(chance.randrange(1, prime) for _ in range(size)))
            digits = scaling_of(one=one, other=other)
            self.assertTrue(factors_fit(prime, size, digits))
            self.equal(scaled_book(one, digits), other)

    def test_none_round_a_ring_of_digits(self):
        # All digits are none of them 0, but the product round the four of them is unlike.
        one, other = (5, 4, ((1, 0, 1, 1), (0, 1, 1, 1))), (5, 4, ((1, 0, 1, 1), (0, 1, 1, 2)))
        self.equal(scaling_of(one, other), None)
        self.assertIsNotNone(scaling_of(one, (5, 4, ((1, 0, 2, 3), (0, 1, 4, 1)))))
        self.equal(scaling_of((5, 2, ()), (5, 2, ((1, 0),))), None)
        self.equal(scaling_of((5, 2, ((0, 1),)), (5, 2, ((1, 0),))), None)

    def test_refused(self):
        for call in (scaling_of, like_paper):
            for other in ODD + NO_BOOKS:
                self.unusable("other", call, LINES, other)
                self.unusable("other", call, one=LINES, other=other)


class Papers(Held, unittest.TestCase):
    def check(self, one, other, paper):
        prime, size, _ = one
        self.assertIs(type(paper), tuple)
        head, word, k, digits = paper
        self.assertTrue(same(head, "like") and word in ("turned", "mirrored") and place_fits(size, k))
        self.assertTrue(factors_fit(prime, size, digits))
        self.equal(book_moved(one, word, k, digits), other)
        self.equal(lets_like(one, other, paper), pattern_of(other))

    def test_against_all_digits(self):
        told = {True: 0, False: 0}
        for prime, sizes in ((2, (1, 2, 3)), (3, (1, 2, 3)), (5, (2,))):
            for size in sizes:
                books = all_books(prime, size)
                for one in books:
                    for other in books:
                        paper = like_paper(one, other)
                        told[paper is None] += 1
                        self.assertIs(paper is not None, are_alike(one, other))
                        if paper is not None:
                            self.check(one, other, paper)
        self.assertGreater(min(told.values()), 100)

    def test_four_places(self):
        chance = random.Random(84)
        for prime in (2, 3):
            books = all_books(prime, 4)
            for one in chance.sample(books, 12):
                for other in chance.sample(books, 30):
                    paper = like_paper(one, other)
                    self.assertIs(paper is not None, are_alike(one, other))
                    if paper is not None:
                        self.check(one, other, paper)

    def test_greater_books(self):
        chance = random.Random(85)
        for prime in PRIMES:
            for size in (1, 5, 8, 12):
                one = some_book(chance, prime, size, chance.randint(0, size))
                for word in ("turned", "mirrored"):
                    digits = tuple(chance.randrange(1, prime) for _ in range(size))
                    other = book_moved(one, word, chance.randrange(size), digits)
                    self.check(one, other, like_paper(one, other))


class Checker(Held, unittest.TestCase):
    def test_every_paper(self):
        """All papers of small books: just those that come to the other one are accepted."""
        for one, other in ((TWINS, turned_book(TWINS, 1)), (TWINS, mirrored_book(TWINS)), ((3, 2, ((1, 2),)),) * 2,
                           ((3, 3, ((1, 0, 2), (0, 1, 0))), (3, 3, ((1, 0, 0), (0, 1, 1))))):
            prime, size, _ = one
            for word in ("turned", "mirrored"):
                for k in range(size):
                    for digits in product(range(1, prime), repeat=size):
                        paper = ("like", word, k, digits)
                        if book_moved(one, word, k, digits) == other:
                            self.equal(lets_like(one, other, paper), pattern_of(other))
                        else:
                            self.invalid("book", -1, lets_like, one, other, paper)
        self.equal(lets_like(thing=("like", "turned", 0, (1, 2, 3, 4)), other=OTHER, one=LINES), (2, 2, 2, 2))

    def test_shape(self):
        good = ("like", "turned", 0, (1, 2, 3, 4))
        for thing in ODD + (good[:3], good + (0,), list(good), ("alike",) + good[1:], ("like", "checks", 0, good[3]),
                            ("like", "both", 0, good[3]), ("like", True, 0, good[3]), ("like", ["turned"], 0, good[3]),
                            ("like", None, 4, None), (["like"],) + good[1:], ("like", ("turned",), 0, good[3])):
            self.invalid("shape", -1, lets_like, LINES, OTHER, thing)

    def test_k(self):
        for k in ODD + (4, -1, 10 ** 59, "0", (0,)):
            if not place_fits(4, k):
                for digits in ((1, 2, 3, 4), None):
                    self.invalid("k", -1, lets_like, LINES, OTHER, ("like", "turned", k, digits))
                    self.invalid("k", -1, lets_like, LINES, OTHER, ("like", "mirrored", k, digits))

    def test_digits(self):
        for digits in ODD + ((1, 2, 3), (1, 2, 3, 0), (1, 2, 3, 7), (1, 2, 3, -1), (True, 2, 3, 4), [1, 2, 3, 4],
                             (1, 2, 3, 4, 5), (1, 2, 3, None)):
            if not factors_fit(7, 4, digits):
                self.invalid("digits", -1, lets_like, LINES, OTHER, ("like", "turned", 0, digits))

    def test_other_comes_first(self):
        for other in ODD + NO_BOOKS:
            for thing in (None, ("like", "turned", 9, None), ("like", "turned", 0, (1, 2, 3, 4))):
                self.unusable("other", lets_like, LINES, other, thing)


if __name__ == "__main__":
    unittest.main()
