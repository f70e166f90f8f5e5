"""Books counted and listed [48], [49], [50], with (G6) of [10], [4], [28]."""

import types
import unittest
from collections import Counter
from functools import cache

from tests.helpers import (LINES, ODD, PRIMES, THROWS, Held, books_of_rank, number, patterns_by_orders, prime_fits,
                           size_fits, some_patterns)
from throwshelves.bookpatterns import pattern_of
from throwshelves.bridges import bridge_count, bridge_plan, plan_books
from throwshelves.counts import book_count, count_polynomial, least_count, total_count
from throwshelves.listings import all_books, books_of, counts_of
from throwshelves.patterns import rounds_of

# Primes and sizes that are small enough to list all books of them.
LISTED = [(2, size) for size in (1, 2, 3, 4, 5)] + [(3, size) for size in (1, 2, 3, 4)]
LISTED += [(prime, size) for prime in (5, 7) for size in (1, 2, 3)] + [(11, 2), (13, 1), (13, 2)]


@cache
def tally(prime, size):
    """How many books have each pattern, by listing all of them."""
    return Counter(pattern_of(book) for rank in range(size + 1) for book in books_of_rank(prime, size, rank))


@cache
def gauss(size, rank):
    """The polynomial of how many books of a size and a rank there are, by those with a word at the last place alone,
    and those without."""
    if rank in (0, size):
        return (1,)
    one, other = gauss(size - 1, rank - 1), (0,) * rank + gauss(size - 1, rank)
    return tuple((one[k] if k < len(one) else 0) + (other[k] if k < len(other) else 0)
                 for k in range(max(len(one), len(other))))


def value(polynomial, x):
    return sum(one * x ** k for k, one in enumerate(polynomial))


def greater_patterns():
    return [p for p in some_patterns(57, (6, 7, 8), each=12)]


def turned(pattern, k):
    return tuple(pattern[(j - k) % len(pattern)] for j in range(len(pattern)))


def of_checks(pattern):
    size, throws = len(pattern), [0] * len(pattern)
    for place, throw in enumerate(pattern):
        throws[(place + throw) % size] = size - throw
    return tuple(throws)


class Polynomials(Held, unittest.TestCase):
    def test_against_all_books(self):
        for prime, size in LISTED:
            counts = tally(prime, size)
            for pattern in patterns_by_orders(size):
                self.assertGreater(counts[pattern], 0)
                self.equal(book_count(pattern, prime), counts[pattern])
                self.equal(value(count_polynomial(pattern), prime), counts[pattern])

    def test_against_all_books_of_six_places(self):
        counts = Counter(pattern_of(book) for book in books_of_rank(2, 6, 3))
        for pattern in patterns_by_orders(6):
            if sum(pattern) == 18:
                self.equal(book_count(pattern, 2), counts[pattern])
        self.assertEqual(sum(counts.values()), 1395)

    def test_kinds(self):
        for pattern in [p for size in (1, 2, 3, 4) for p in patterns_by_orders(size)] + greater_patterns():
            polynomial = count_polynomial(pattern)
            self.assertIs(type(polynomial), tuple)
            self.assertTrue(all(type(one) is int for one in polynomial))
            self.equal([polynomial[-1], len(polynomial) - 1], [1, bridge_count(pattern)])
            sign = -1 if bridge_count(pattern) % 2 else 1
            self.equal(polynomial[::-1], tuple(sign * one for one in polynomial))

    def test_all_come_to_all(self):
        for size in range(1, 7):
            sums = {}
            for pattern in patterns_by_orders(size):
                balls = sum(pattern) // size
                for k, one in enumerate(count_polynomial(pattern)):
                    sums[balls, k] = sums.get((balls, k), 0) + one
            for balls in range(size + 1):
                self.equal([sums[balls, k] for k in range(balls * (size - balls) + 1)], list(gauss(size, balls)))

    def test_turned_and_checks(self):
        for pattern in [p for size in (2, 3, 4) for p in patterns_by_orders(size)] + greater_patterns():
            polynomial = count_polynomial(pattern)
            for k in range(1, len(pattern)):
                self.equal(count_polynomial(turned(pattern, k)), polynomial)
            self.equal(count_polynomial(of_checks(pattern)), polynomial)

    def test_multiples_and_least(self):
        for pattern in [p for size in (1, 2, 3, 4) for p in patterns_by_orders(size)] + greater_patterns():
            for prime in PRIMES:
                count, least = book_count(pattern, prime), least_count(pattern, prime)
                self.equal(least, (prime - 1) ** bridge_count(pattern))
                self.assertGreaterEqual(count, least)
                self.assertEqual(count % (prime - 1) ** (len(pattern) - len(rounds_of(pattern))), 0)
                if least <= 200:
                    self.assertEqual(len(list(plan_books(bridge_plan(pattern), prime))), least)

    def test_level_ones_up_to_eight(self):
        # One ball: no column has 0, and rows are settled.
        self.equal(count_polynomial((1,) * 8), (-1, 7, -21, 35, -35, 21, -7, 1))
        self.equal(count_polynomial((7,) * 8), count_polynomial((1,) * 8))
        # Two balls: of the prime + 1 directions that columns have no two next ones are alike, all round the ring;
        # each direction has prime - 1 columns, and each book as many choices of two rows as there are frames.
        for size in range(3, 9):
            for prime in PRIMES:
                rings = prime ** size + (-1) ** size * prime
                frames = (prime ** 2 - 1) * (prime ** 2 - prime)
                self.equal(book_count((2,) * size, prime), rings * (prime - 1) ** size // frames)

    def test_ends(self):
        self.equal([count_polynomial((0,)), count_polynomial((1,)), count_polynomial((1, 1)), count_polynomial((8,) * 8)],
                   [(1,), (1,), (-1, 1), (1,)])
        self.equal([book_count((0,), 13), least_count((1,), 13), book_count((1, 1), 13), least_count((1, 1), 2)],
                   [1, 1, 12, 1])
        self.equal([book_count(prime=3, pattern=THROWS), least_count(prime=3, pattern=THROWS)], [8, 8])

    def test_refused(self):
        for call in (book_count, least_count):
            for thing in ODD + (4, 17, -3):
                if not prime_fits(thing):
                    self.unusable("prime", call, THROWS, thing)


class Totals(Held, unittest.TestCase):
    def test_against_the_polynomial(self):
        for size in range(1, 13):
            for rank in range(size + 1):
                for prime in PRIMES:
                    self.equal(total_count(size, rank, prime), value(gauss(size, rank), prime))
        self.equal(total_count(prime=2, rank=2, size=4), 35)

    def test_counts_of(self):
        for prime, size in LISTED:
            for rank in range(size + 1):
                told = counts_of(size, rank, prime)
                wanted = sorted(item for item in tally(prime, size).items() if sum(item[0]) == rank * size)
                self.equal(told, tuple(wanted))
                self.assertEqual(sum(count for _, count in told), total_count(size, rank, prime))
        for prime, size, rank in ((2, 6, 3), (13, 5, 2), (7, 6, 1)):
            self.assertEqual(sum(count for _, count in counts_of(size, rank, prime)), total_count(size, rank, prime))
        self.equal(counts_of(prime=5, size=2, rank=0), (((0, 0), 1),))

    def test_refused(self):
        def first(size, rank, prime):
            made = all_books(size, rank, prime)
            self.assertIsInstance(made, types.GeneratorType)
            return next(made)
        for call in (total_count, first, counts_of):
            for thing in ODD + (0, -1):
                if not size_fits(thing):
                    self.unusable("size", call, thing, None, None)
                if not (number(thing) and thing <= 3):
                    self.unusable("rank", call, 3, thing, None)
                if not prime_fits(thing):
                    self.unusable("prime", call, 3, 1, thing)


class Listings(Held, unittest.TestCase):
    def test_all_books(self):
        for prime, size in LISTED:
            for rank in range(size + 1):
                self.equal(list(all_books(size, rank, prime)), sorted(books_of_rank(prime, size, rank)))
        self.equal(list(all_books(rank=0, prime=13, size=12)), [(13, 12, ())])
        whole = tuple(tuple(int(at == lead) for at in range(12)) for lead in range(12))
        self.equal(list(all_books(12, 12, 13)), [(13, 12, whole)])
        self.equal(len(list(all_books(6, 3, 2))), 1395)
        books = list(all_books(10, 9, 2))
        self.assertEqual((len(books), books == sorted(set(books))), (1023, True))

    def test_books_of(self):
        for prime, size in LISTED:
            if prime > 3 and size > 2:
                continue
            for pattern in patterns_by_orders(size):
                rank = sum(pattern) // size
                wanted = [book for book in sorted(books_of_rank(prime, size, rank)) if pattern_of(book) == pattern]
                made = books_of(pattern, prime)
                self.assertIsInstance(made, types.GeneratorType)
                self.equal(list(made), wanted)
                self.assertEqual(book_count(pattern, prime), len(wanted))
                if least_count(pattern, prime) <= 20:
                    self.assertLessEqual(set(plan_books(bridge_plan(pattern), prime)), set(wanted))
        self.assertIn(LINES, list(books_of((2, 2, 2, 2), 7)))
        self.equal(list(books_of(prime=3, pattern=(1, 1))), [(3, 2, ((1, 1),)), (3, 2, ((1, 2),))])

    def test_books_of_refuses(self):
        for thing in ODD + (4, 17):
            if not prime_fits(thing):
                made = books_of(THROWS, thing)
                self.assertIsInstance(made, types.GeneratorType)
                self.unusable("prime", next, made)


if __name__ == "__main__":
    unittest.main()
