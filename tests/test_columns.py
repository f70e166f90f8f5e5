"""Columns, and the ranks of places and stretches [18], [19], [20]."""

import random
import unittest
from itertools import combinations

from tests.helpers import (LINES, PRIMES, TWINS, Held, rank_by_words, ring, small_books, some_books, words_by_sums)
from throwshelves.books import span_of, words_of
from throwshelves.columns import column_of, columns_of, from_columns, rank_on, spans, stretch_rank
from throwshelves.kinds import is_book


def sets_of(size):
    return [places for many in range(size + 1) for places in combinations(range(size), many)]


class Columns(Held, unittest.TestCase):
    def test_columns(self):
        for book in small_books() + some_books(8, (1, 5, 12, 20)):
            wanted = tuple(tuple(row[place] for row in book[2]) for place in range(book[1]))
            self.equal(columns_of(book), wanted)
            for place in range(book[1]):
                self.equal(column_of(book, place), wanted[place])
            self.equal(from_columns(book[0], wanted), book)

    def test_no_rows(self):
        self.equal(columns_of((5, 3, ())), ((), (), ()))
        self.equal(from_columns(5, ((), (), ())), (5, 3, ()))
        self.equal(from_columns(5, ((),)), (5, 1, ()))
        self.equal(from_columns(5, ((0, 0), (0, 0))), (5, 2, ()))

    def test_from_columns(self):
        chance = random.Random(9)
        for prime in PRIMES:
            for size in (1, 2, 5, 20):
                for many in (0, 1, 2, 6, size + 2):
                    columns = tuple(tuple(chance.randrange(prime) for _ in range(many)) for _ in range(size))
                    rows = tuple(tuple(column[k] for column in columns) for k in range(many))
                    book = from_columns(prime, columns)
                    self.assertTrue(is_book(book))
                    self.equal(book, span_of(prime, size, rows))

    def test_from_columns_refuses(self):
        for columns in ((), ((1, 0), (1,)), ((2,),), ((-1,),), ((True,),), [(1,)], ([1],), (1,), None, ((1,), None),
                        ((1,), ("1",)), ((), (0,)), "1", ((1, 0), [1, 0])):
            self.unusable("columns", from_columns, 2, columns)
            self.unusable("prime", from_columns, 4, columns)


class Ranks(Held, unittest.TestCase):
    def test_against_words(self):
        for book in small_books():
            prime, size, _ = book
            words = words_by_sums(book)
            for places in sets_of(size):
                rank = rank_by_words(prime, words, places)
                self.equal(rank_on(book, places), rank)
                for place in range(size):
                    more = rank_by_words(prime, words, places + (place,))
                    self.assertIs(spans(book, places, place), more == rank)

    def test_stretches_against_words(self):
        for book in small_books():
            prime, size, _ = book
            words = words_by_sums(book)
            for start in range(size):
                for length in range(size + 1):
                    self.equal(stretch_rank(book, (start, length)), rank_by_words(prime, words, ring(size, start, length)))

    def test_consequences(self):
        chance = random.Random(10)
        for book in small_books() + some_books(11, (1, 2, 3, 7, 12, 20), each=1):
            size = book[1]
            for start in range(size):
                for length in {0, 1, size, chance.randint(0, size)}:
                    places = tuple(sorted(ring(size, start, length)))
                    rank = stretch_rank(book, (start, length))
                    self.assertEqual(rank_on(book, places), rank)
                    self.assertLessEqual(rank, min(length, len(book[2])))
                    place = chance.randrange(size)
                    more = tuple(sorted(set(places) | {place}))
                    self.assertLessEqual(rank, rank_on(book, more))
                    self.assertIs(spans(book, places, place), rank_on(book, more) == rank)
            self.assertEqual(stretch_rank(book, (0, size)), len(book[2]))

    def test_columns_of_noughts(self):
        for book in small_books():
            for place in range(book[1]):
                noughts = all(word[place] == 0 for word in words_of(book))
                self.assertIs(spans(book, (), place), noughts)
                self.assertIs(not any(column_of(book, place)), noughts)

    def test_the_place_itself(self):
        for book in (LINES, TWINS):
            for place in range(4):
                self.assertIs(spans(book, (place,), place), True)
                self.assertIs(spans(book, (), place), False)
                self.assertEqual(rank_on(book, ()), 0)

    def test_full_rank(self):
        for prime in PRIMES:
            full = (prime, 3, ((1, 0, 0), (0, 1, 0), (0, 0, 1)))
            for places in sets_of(3):
                self.assertEqual(rank_on(full, places), len(places))
                for place in range(3):
                    self.assertIs(spans(full, places, place), place in places)


if __name__ == "__main__":
    unittest.main()
