"""The patterns of changed books, by the ranks of their columns: against the pattern changed likewise [66], [69]."""

import random
import unittest

from tests.helpers import PRIMES, Held, ring, table_by_throws
from throwshelves.books import checks_of, span_of
from throwshelves.bookpatterns import pattern_of
from throwshelves.bookshelves import book_doubled, book_with_full, book_with_rest, book_without
from throwshelves.duals import checks_pattern
from throwshelves.errors import Barred
from throwshelves.joins import joined_books, joined_patterns
from throwshelves.shelves import doubled, with_full, with_rest, without
from throwshelves.turns import mirrored_book, mirrored_pattern, scaled_book, turned_book, turned_pattern


def rank_by_steps(prime, columns):
    """How many of the columns can be chosen, none of them a sum of multiples of the others, by taking them off."""
    left, rank = [list(column) for column in columns], 0
    for k in range(len(left[0]) if left else 0):
        first = next((column for column in left if column[k]), None)
        if first is None:
            continue
        rank, inverse = rank + 1, pow(first[k], -1, prime)
        left = [[(a - column[k] * inverse * b) % prime for a, b in zip(column, first)]
                for column in left if column is not first]
    return rank


def ranks_of_columns(book):
    """The ranks of all stretches of the book."""
    prime, size, rows = book
    columns = [[row[at] for row in rows] for at in range(size)]
    return tuple(tuple(rank_by_steps(prime, [columns[at] for at in ring(size, start, length)])
                       for length in range(size + 1)) for start in range(size))


def rich_books(seed, sizes, each):
    """Books with columns of noughts and with like ones, over all primes."""
    chance = random.Random(seed)
    for prime in PRIMES:
        for size in sizes:
            for _ in range(each):
                rank, columns = chance.randint(0, size), []
                for _ in range(size):
                    kind = chance.random()
                    if kind < 0.2:
                        columns.append((0,) * rank)
                    elif kind < 0.45 and columns:
                        many = chance.randrange(1, prime)
                        columns.append(tuple(many * digit % prime for digit in chance.choice(columns)))
                    else:
                        columns.append(tuple(chance.randrange(prime) for _ in range(rank)))
                yield span_of(prime, size, tuple(tuple(column[k] for column in columns) for k in range(rank)))


class Changes(Held, unittest.TestCase):
    def check(self, book, pattern):
        self.equal(ranks_of_columns(book), table_by_throws(pattern))

    def books(self, seed):
        return list(rich_books(seed, (1, 2, 3, 4, 5, 6), 3))

    def test_turned_mirrored_scaled_checks(self):
        chance = random.Random(160)
        for book in self.books(161):
            pattern = pattern_of(book)
            self.check(book, pattern)
            k = chance.choice((1, -1, 2, 10 ** 59))
            self.check(turned_book(book, k), turned_pattern(pattern, k))
            self.check(mirrored_book(book), mirrored_pattern(pattern))
            self.check(scaled_book(book, tuple(chance.randrange(1, book[0]) for _ in range(book[1]))), pattern)
            self.check(checks_of(book), checks_pattern(pattern))

    def test_joined(self):
        found = self.books(162)
        for one, other in zip(found, found[1:] + found[:1]):
            if one[0] == other[0]:
                self.check(joined_books(one, other), joined_patterns(pattern_of(one), pattern_of(other)))

    def test_a_shelf_more(self):
        for book in self.books(163):
            pattern = pattern_of(book)
            for place in range(book[1] + 1):
                self.check(book_with_rest(book, place), with_rest(pattern, place))
                self.check(book_with_full(book, place), with_full(pattern, place))
                if place < book[1]:
                    self.check(book_doubled(book, place), doubled(pattern, place))

    def test_a_shelf_fewer(self):
        told = 0
        for book in self.books(164):
            for place in range(book[1]):
                try:
                    wanted = without(pattern_of(book), place)
                except Barred:
                    self.refused("Barred", {"bar": (place, 1)}, book_without, book, place)
                    continue
                self.check(book_without(book, place), wanted)
                told += 1
        self.assertGreater(told, 100)


if __name__ == "__main__":
    unittest.main()
