"""Shelves more and fewer, in patterns and in books [68], [69], with [9], [63]."""

import unittest
from functools import cache

from tests.helpers import (LINES, ODD, PRIMES, THROWS, TWINS, Held, all_books, book_fits, landing, number,
                           patterns_by_orders, place_fits, small_books, some_books, some_patterns, words_by_sums)
from throwshelves.bookpatterns import pattern_of
from throwshelves.bookshelves import book_doubled, book_with_full, book_with_rest, book_without
from throwshelves.bridges import book_of
from throwshelves.errors import Barred
from throwshelves.patterns import balls_of, is_throws
from throwshelves.shelves import doubled, with_full, with_rest, without


@cache
def patterns(size):
    return patterns_by_orders(size)


@cache
def many_patterns():
    return [p for size in (1, 2, 3, 4) for p in patterns(size)] + some_patterns(71, (5, 6, 9, 12), each=4)


def columns_nought(book):
    """The book, joined with columns of noughts and like ones, if it is small."""
    prime, size, rows = book
    return [book, (prime, size + 1, tuple(row + (0,) for row in rows)),
            (prime, size + 2, tuple(row + (row[-1], row[0]) for row in rows))]


def some_small_books():
    return [other for book in small_books()[::4] for other in columns_nought(book)] + [LINES, TWINS]


def named_throws(names, balls):
    """The throws of the named shelves: each ball lands at a shelf, at the next one of its name, or a round further."""
    size = len(names)
    throws = []
    for at, name in enumerate(names):
        target, full = balls[name]
        far = (names.index(target) - at) % size
        throws.append(size if far == 0 and full else far)
    return tuple(throws)


def named_balls(pattern):
    return {i: ((i + throw) % len(pattern), throw == len(pattern)) for i, throw in enumerate(pattern)}


class More(Held, unittest.TestCase):
    def test_rest_and_full_by_names(self):
        for pattern in many_patterns():
            for place in range(len(pattern) + 1):
                names = list(range(len(pattern)))
                names.insert(place, "new")
                for call, full in ((with_rest, False), (with_full, True)):
                    wanted = named_throws(names, named_balls(pattern) | {"new": ("new", full)})
                    self.equal(call(pattern, place), wanted)
                    self.assertTrue(is_throws(wanted))
                    self.equal(balls_of(wanted), balls_of(pattern) + full)

    def test_doubled_by_names(self):
        for pattern in many_patterns():
            for place in range(len(pattern)):
                names, balls = list(range(len(pattern))), named_balls(pattern)
                names.insert(place + 1, "new")
                if pattern[place] == 0:
                    balls["new"] = ("new", False)
                else:
                    balls["new"], balls[place] = balls[place], ("new", False)
                wanted = named_throws(names, balls)
                self.equal(doubled(pattern, place), wanted)
                self.assertTrue(is_throws(wanted))
                self.equal(balls_of(wanted), balls_of(pattern))
                if pattern[place] != 0:
                    self.equal(wanted[place:place + 2], (1, pattern[place]))

    def test_books_by_words(self):
        for book in some_small_books():
            prime, size, _ = book
            words = words_by_sums(book)
            for place in range(size + 1):
                rest, full = book_with_rest(book, place), book_with_full(book, place)
                self.assertEqual(words_by_sums(rest), {w[:place] + (0,) + w[place:] for w in words})
                self.assertEqual(words_by_sums(full), {w[:place] + (d,) + w[place:] for w in words for d in range(prime)})
                twin = book_doubled(book, place) if place < size else None
                if twin is not None:
                    self.assertEqual(words_by_sums(twin), {w[:place + 1] + w[place:] for w in words})
                for other in (rest, full, twin):
                    self.assertTrue(other is None or book_fits(other) and other[:2] == (prime, size + 1))

    def test_patterns_of_books(self):
        for book in some_small_books() + some_books(72, (5, 6, 11), each=1):
            pattern, size = pattern_of(book), book[1]
            for place in range(size + 1):
                self.equal(pattern_of(book_with_rest(book, place)), with_rest(pattern, place))
                self.equal(pattern_of(book_with_full(book, place)), with_full(pattern, place))
                if place < size:
                    self.equal(pattern_of(book_doubled(book, place)), doubled(pattern, place))

    def test_refused(self):
        for place in ODD + (5, -1, "0", (0,)):
            if not (number(place) and place <= 4):
                for call, handed in ((with_rest, THROWS), (with_full, THROWS), (book_with_rest, TWINS),
                                     (book_with_full, TWINS)):
                    self.unusable("place", call, handed, place)
            if not place_fits(4, place):
                self.unusable("place", doubled, THROWS, place)
                self.unusable("place", book_doubled, TWINS, place)
        self.unusable("place", doubled, pattern=THROWS, place=4)
        self.unusable("place", book_with_rest, book=TWINS, place=5)


def lands_so(pattern, place, other):
    """Where the balls of the other pattern land, told by the integers of the pattern, of which those of the place
    are left out."""
    size = len(pattern)
    olds = [m for m in range(-3 * size, 4 * size) if m % size != place]
    zero = olds.index(0 if place != 0 else 1)
    return {m: olds[k + other[(k - zero) % (size - 1)]] for k, m in enumerate(olds) if 0 <= m < size}


def is_let(pattern, place, other):
    """Whether the words of the point let the other pattern be the one without the shelf."""
    size = len(pattern)
    lands = lands_so(pattern, place, other)
    if pattern[place] in (0, size):
        return all(lands[m] == landing(pattern, m) for m in lands)
    z = landing(pattern, place)
    a = next(m for m in range(place - size, place) if landing(pattern, m) == place)
    if z > a + size or any(place < landing(pattern, m) < z for m in range(a + 1, place)):
        return False
    ahead = a % size
    return all(lands[m] == (landing(pattern, m) if m != ahead else z + ahead - a) for m in lands)


class Fewer(Held, unittest.TestCase):
    def test_against_all_patterns(self):
        barred = 0
        for size in (2, 3, 4, 5):
            for pattern in patterns(size):
                for place in range(size):
                    let = [other for other in patterns(size - 1) if is_let(pattern, place, other)]
                    if let:
                        self.equal([without(pattern, place)], let)
                    else:
                        barred += 1
                        self.refused("Barred", {"bar": (place, 1)}, without, pattern, place)
        self.assertGreater(barred, 100)

    def test_one_place(self):
        for pattern in ((0,), (1,)):
            self.refused("Barred", {"bar": (0, 1)}, without, pattern, 0)
            self.unusable("place", without, pattern, 1)
        for book in ((2, 1, ()), (13, 1, ((1,),))):
            self.refused("Barred", {"bar": (0, 1)}, book_without, book, 0)

    def test_books(self):
        for book in small_books() + some_small_books() + some_books(73, (5, 6, 12), each=2):
            pattern, (prime, size, _) = pattern_of(book), book
            for place in range(size):
                try:
                    wanted = without(pattern, place)
                except Barred as error:
                    self.refused("Barred", {"bar": error.bar}, book_without, book, place)
                    self.equal(error.bar, (place, 1))
                    continue
                other = book_without(book, place)
                self.equal(pattern_of(other), wanted)
                self.assertTrue(book_fits(other) and other[:2] == (prime, size - 1))
                self.equal(balls_of(wanted), balls_of(pattern) - (pattern[place] == size))
                if size < 5:
                    words = {w[:place] + w[place + 1:] for w in words_by_sums(book)}
                    self.assertEqual(words_by_sums(other), words)

    def test_all_books_of_a_pattern(self):
        for prime, size in ((2, 4), (2, 5), (3, 4)):
            for book in all_books(prime, size)[::2]:
                for place in range(size):
                    try:
                        wanted = without(pattern_of(book), place)
                    except Barred:
                        continue
                    self.equal(pattern_of(book_without(book, place)), wanted)

    def test_it_undoes(self):
        for pattern in many_patterns():
            for place in range(len(pattern) + 1):
                self.equal(without(with_rest(pattern, place), place), pattern)
                self.equal(without(with_full(pattern, place), place), pattern)
                if place < len(pattern):
                    self.equal(without(doubled(pattern, place), place), pattern)
                    self.equal(without(doubled(pattern, place), place + 1), pattern)
        for prime in PRIMES:
            book = book_of(THROWS, prime)
            for place in range(4):
                self.equal(book_without(book_doubled(book, place), place), book)
                self.equal(book_without(book_with_full(book, place), place), book)
                self.equal(book_without(book_with_rest(book, place), place), book)

    def test_refused(self):
        for place in ODD + (4, -1, "0", (0,)):
            if not place_fits(4, place):
                self.unusable("place", without, THROWS, place)
                self.unusable("place", without, pattern=(2, 2, 2, 2), place=place)
                self.unusable("place", book_without, LINES, place)
                self.unusable("place", book_without, book=LINES, place=place)


if __name__ == "__main__":
    unittest.main()
