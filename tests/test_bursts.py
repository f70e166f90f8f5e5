"""Bursts and menders [54], [56], [57], with [6], [9], [53]."""

import unittest

from tests.helpers import (ODD, THROWS, Held, patterns_by_orders, rank_by_words, ring, small_books, some_books,
                           some_patterns, stretch_fits, words_by_sums)
from throwshelves.bookpatterns import pattern_of
from throwshelves.bridges import book_of
from throwshelves.bursts import mends_burst, most_burst, most_window, open_rank
from throwshelves.columns import rank_on, spans
from throwshelves.menders import chain_of, next_ones, ones_before
from throwshelves.patterns import ball_paths, rounds_of


def many_patterns():
    return [p for size in (1, 2, 3, 4, 5) for p in patterns_by_orders(size)] + some_patterns(61, (6, 9, 12), each=4)


def all_stretches(size):
    return [(start, length) for start in range(size) for length in range(size + 1)]


def others(size, stretch):
    """All places but those of the stretch."""
    return [place for place in range(size) if place not in ring(size, *stretch)]


class Bursts(Held, unittest.TestCase):
    def test_against_words(self):
        for book in small_books():
            prime, size, rows = book
            words, pattern = words_by_sums(book), pattern_of(book)
            for stretch in all_stretches(size):
                told = rank_by_words(prime, words, others(size, stretch))
                self.equal(open_rank(pattern, stretch), len(rows) - told)
                self.equal(mends_burst(pattern, stretch), told == len(rows))

    def test_against_books(self):
        for pattern in some_patterns(62, (6, 9, 12), each=2):
            book, size = book_of(pattern, 5), len(pattern)
            for stretch in all_stretches(size):
                told = rank_on(book, tuple(others(size, stretch)))
                self.equal(open_rank(pattern, stretch), len(book[2]) - told)
                self.equal(mends_burst(stretch=stretch, pattern=pattern), told == len(book[2]))

    def test_mended_ones(self):
        for pattern in many_patterns():
            size = len(pattern)
            mended = [stretch for stretch in all_stretches(size) if mends_burst(pattern, stretch)]
            for start, length in all_stretches(size):
                by_throws = all(pattern[(start + k) % size] < size - k for k in range(length))
                self.assertEqual((start, length) in mended, by_throws)
                self.assertEqual(open_rank(pattern, (start, length)) == 0, by_throws)
                if by_throws and length > 0:
                    self.assertTrue({(start, length - 1), ((start + 1) % size, length - 1)} <= set(mended))

    def test_most(self):
        for pattern in many_patterns():
            size = len(pattern)
            burst = [length for length in range(size + 1)
                     if all(mends_burst(pattern, (start, length)) for start in range(size))]
            self.equal(most_burst(pattern), max(burst))
            window = [length for length in range(size + 1) if not any(
                k + pattern[(start + k) % size] < length for start in range(size) for k in range(length))]
            self.equal(most_window(pattern), max(window))

    def test_ends(self):
        self.equal([most_burst((0,)), most_window((0,)), most_burst((1,)), most_window((1,))], [1, 0, 0, 1])
        self.equal([mends_burst((0,), (0, 1)), mends_burst((1,), (0, 1)), mends_burst((1,), (0, 0))], [True, False, True])
        self.equal([open_rank((3, 3, 3), (1, 3)), open_rank((3, 3, 3), (1, 0)), open_rank((0, 0, 0), (2, 3))], [3, 0, 0])
        self.equal([most_burst(pattern=THROWS), most_window(pattern=THROWS)], [1, 1])

    def test_refused(self):
        for thing in ODD + ((4, 1), (0, 5), (0, -1), (True, 1), (0, True), [0, 1], (0, 1, 2)):
            if not stretch_fits(4, thing):
                self.unusable("stretch", mends_burst, THROWS, thing)
                self.unusable("stretch", open_rank, THROWS, thing)


class Menders(Held, unittest.TestCase):
    def test_next_ones(self):
        for pattern in many_patterns():
            size = len(pattern)
            for place in range(size):
                self.equal(next_ones(pattern, place), tuple((place + k) % size for k in range(1, pattern[place] + 1)))

    def test_ones_before(self):
        for pattern in many_patterns():
            size = len(pattern)
            for place in range(size):
                ahead = []
                # Back from the place, until one is met whose ball, so far on, lands here.
                for k in range(1, size + 1):
                    ahead.insert(0, (place - k) % size)
                    if pattern[ahead[0]] == k:
                        break
                self.equal(ones_before(pattern, place), tuple(ahead) if pattern[place] > 0 else ())
        self.equal([next_ones((3, 0, 0), 0), ones_before((3, 0, 0), 0), next_ones((3, 0, 0), 1), ones_before((3, 0, 0), 1)],
                   [(1, 2, 0), (0, 1, 2), (), ()])

    def test_columns_of_books(self):
        for book in small_books() + some_books(63, (5, 8, 12), each=1):
            pattern = pattern_of(book)
            for place in range(book[1]):
                for told in (next_ones(pattern, place), ones_before(pattern, place)):
                    self.assertTrue(spans(book, tuple(sorted(told)), place))
                    # With one fewer at the far end they do not.
                    fewer = told[:-1] if told == next_ones(pattern, place) else told[1:]
                    if told and pattern[place] < book[1]:
                        self.assertFalse(spans(book, tuple(sorted(fewer)), place))

    def test_chains(self):
        for pattern in many_patterns():
            size = len(pattern)
            for place in range(size):
                wanted, at = [place], (place + pattern[place]) % size
                while at != place:
                    wanted.append(at)
                    at = (at + pattern[at]) % size
                chain = chain_of(pattern, place)
                self.equal(chain, tuple(wanted))
                least = chain.index(min(chain))
                self.assertIn(chain[least:] + chain[:least], rounds_of(pattern))
                balls = dict(ball_paths(pattern))[chain[least:] + chain[:least]]
                self.assertEqual(sum(pattern[other] for other in chain), size * balls)

    def test_by_name(self):
        self.equal([next_ones(place=3, pattern=THROWS), ones_before(place=2, pattern=THROWS),
                    chain_of(place=0, pattern=THROWS)], [(0, 1, 2), (3, 0, 1), (0, 1, 3, 2)])

    def test_refused(self):
        for call in (next_ones, ones_before, chain_of):
            for thing in ODD + (4, -1, "0"):
                if type(thing) is not int or not 0 <= thing < 4:
                    self.unusable("place", call, THROWS, thing)


if __name__ == "__main__":
    unittest.main()
