"""Rings joined, and taken apart again [67], [69], with [63]."""

import unittest
from functools import cache

from tests.helpers import (LINES, ODD, PRIMES, THROWS, TWINS, Held, all_books, book_fits, integer, pattern_fits,
                           patterns_by_orders, rank_by_throws, some_books, some_patterns, words_by_sums)
from throwshelves.bookpatterns import pattern_of
from throwshelves.bridges import book_of
from throwshelves.joins import joined_books, joined_patterns, split_at
from throwshelves.patterns import balls_of, is_throws


@cache
def patterns(size):
    return patterns_by_orders(size)


def joined_by_words(one, other):
    """The throws of the one behind which those of the other stand, told by where each ball lands."""
    throws = []
    for part, more in ((one, len(other)), (other, len(one))):
        for i, throw in enumerate(part):
            throws.append(throw if throw + i < len(part) else throw + more)
    return tuple(throws)


class Joins(Held, unittest.TestCase):
    def test_patterns(self):
        found = [p for size in (1, 2, 3, 4) for p in patterns(size)][::2] + some_patterns(64, (6, 9), each=2)
        for one in found:
            for other in found[::3]:
                joined = joined_patterns(one, other)
                self.equal(joined, joined_by_words(one, other))
                self.assertTrue(is_throws(joined))
                self.equal(balls_of(joined), balls_of(one) + balls_of(other))
        self.equal(joined_patterns(other=(1, 1), one=THROWS), (1, 2, 4, 5, 1, 5))

    def test_books_by_words(self):
        for prime, sizes in ((2, (1, 2, 3)), (3, (1, 2)), (5, (1,))):
            found = [book for size in sizes for book in all_books(prime, size)]
            for one in found:
                for other in found:
                    joined = joined_books(one, other)
                    words = {a + b for a in words_by_sums(one) for b in words_by_sums(other)}
                    self.assertEqual(words_by_sums(joined), words)
                    self.assertTrue(book_fits(joined))
                    self.equal(joined[:2], (prime, one[1] + other[1]))

    def test_patterns_of_books(self):
        for one in some_books(65, (1, 3, 6), each=1):
            for other in some_books(66, (1, 2, 5, 6), each=1):
                if one[0] == other[0]:
                    self.equal(pattern_of(joined_books(one, other)),
                               joined_patterns(pattern_of(one), pattern_of(other)))
        for prime in PRIMES:
            for one in some_patterns(67, (2, 6), each=2):
                joined = joined_books(book_of(one, prime), book_of(THROWS, prime))
                self.equal(pattern_of(joined), joined_patterns(one, THROWS))

    def test_refused(self):
        for other in ODD + (TWINS, list(THROWS), (1, 0), (3, 1), (0, True), (2,), (-1,)):
            if not pattern_fits(other):
                self.unusable("other", joined_patterns, THROWS, other)
                self.unusable("other", joined_patterns, one=THROWS, other=other)
        for other in ODD + (LINES, (3, 4, ()), THROWS, (2, 0, ()), (2, 2, ((0, 0),)), (2, 2, ((1, True),)), [2, 2, ()]):
            if not (book_fits(other) and other[0] == 2):
                self.unusable("other", joined_books, TWINS, other)
                self.unusable("other", joined_books, one=TWINS, other=other)


class Splits(Held, unittest.TestCase):
    def test_against_all_pairs(self):
        for size in (2, 3, 4, 5):
            for place in range(1, size):
                pairs = {}
                for one in patterns(place):
                    for other in patterns(size - place):
                        joined = joined_patterns(one, other)
                        self.assertNotIn(joined, pairs)
                        pairs[joined] = (one, other)
                for pattern in patterns(size):
                    self.equal(split_at(pattern, place), pairs.get(pattern))

    def test_the_ranks_tell_it(self):
        for pattern in [p for size in (2, 3, 4, 5) for p in patterns(size)] + some_patterns(68, (8, 12), each=6):
            size = len(pattern)
            for place in range(1, size):
                both = rank_by_throws(pattern, 0, place) + rank_by_throws(pattern, place, size - place)
                self.assertIs(split_at(pattern, place) is not None, both == balls_of(pattern))

    def test_greater_ones(self):
        for one in some_patterns(69, (1, 4, 6), each=3):
            for other in some_patterns(70, (1, 3, 6), each=3):
                self.equal(split_at(joined_patterns(one, other), len(one)), (one, other))

    def test_refused(self):
        for place in ODD + (0, 4, 5, -1, "1", (1,)):
            if not (integer(place) and 1 <= place < 4):
                self.unusable("place", split_at, THROWS, place)
                self.unusable("place", split_at, pattern=THROWS, place=place)
        for place in (-1, 0, 1, 2):
            self.unusable("place", split_at, (0,), place)
            self.unusable("place", split_at, (1,), place)


if __name__ == "__main__":
    unittest.main()
