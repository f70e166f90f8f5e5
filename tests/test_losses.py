"""Lost digits filled in [55], [57], with [4], [53]."""

import unittest
from itertools import product

from tests.helpers import (LINES, ODD, TWINS, Held, number, ring, small_books, some_books, stretch_fits, words_by_sums)
from throwshelves.bookpatterns import pattern_of
from throwshelves.books import rank_of, span_of
from throwshelves.bursts import mends_burst, open_rank
from throwshelves.errors import Lost, NotUsable, Torn
from throwshelves.losses import filled, holds_any, open_words


def all_stretches(size):
    return [(start, length) for start in range(size) for length in range(size + 1)]


def some_stretches(size):
    """All stretches, or of greater rings those from a few places on."""
    return [(start, length) for start, length in all_stretches(size) if size < 6 or start in (0, 4, size - 1)]


def with_none(word, stretch):
    lost = ring(len(word), *stretch)
    return tuple(None if place in lost else digit for place, digit in enumerate(word))


class Filled(Held, unittest.TestCase):
    def judge(self, book, words, digits):
        """What filled tells, or raises, held against all words of the book."""
        prime, size, _ = book
        told = [place for place in range(size) if digits[place] is not None]
        right = [word for word in words if all(word[place] == digits[place] for place in told)]
        try:
            word = filled(book, digits)
        except Torn as error:
            self.assertEqual(right, [])
            self.torn(book, words, digits, error.ways)
        except Lost as error:
            self.assertGreater(len(right), 1)
            self.assertIn(error.within, words)
            self.assertTrue(any(error.within) and type(error.within) is tuple)
            self.assertTrue(all(error.within[place] == 0 for place in told))
        else:
            self.equal([word], right)

    def torn(self, book, words, digits, ways):
        prime, size, _ = book
        self.assertTrue(type(ways) is tuple and len(ways) == size and all(number(one) and one < prime for one in ways))
        self.assertTrue(all(ways[place] == 0 for place in range(size) if digits[place] is None))
        self.assertTrue(all(sum(a * b for a, b in zip(ways, word)) % prime == 0 for word in words))
        self.assertNotEqual(sum(a * b for a, b in zip(ways, digits) if b is not None) % prime, 0)

    def test_all_digits_of_small_books(self):
        for book in small_books():
            prime, size, _ = book
            if prime ** size > 30:
                continue
            words = words_by_sums(book)
            for lost in {tuple(sorted(ring(size, *stretch))) for stretch in all_stretches(size)}:
                choices = [(None,) if place in lost else range(prime) for place in range(size)]
                for digits in product(*choices):
                    self.judge(book, words, digits)

    def test_words_of_greater_books(self):
        for book in [LINES] + some_books(64, (5, 8, 12), each=1):
            prime, size, rows = book
            word = tuple(sum((k + 1) * row[at] for k, row in enumerate(rows)) % prime for at in range(size))
            for stretch in some_stretches(size):
                digits = with_none(word, stretch)
                if mends_burst(pattern_of(book), stretch):
                    self.equal(filled(book, digits), word)
                else:
                    with self.assertRaises(Lost) as caught:
                        filled(book, digits)
                    within = caught.exception.within
                    self.equal(span_of(prime, size, rows + (within,)), book)
                    self.assertTrue(any(within) and not any(within[place] for place in range(size)
                                                            if digits[place] is not None))

    def test_wrong_words_of_greater_books(self):
        for book in some_books(65, (6, 12), each=1):
            prime, size, rows = book
            for place in range(size):
                digits = tuple(int(at == place) for at in range(size))
                if span_of(prime, size, rows + (digits,)) == book:
                    self.equal(filled(book, digits), digits)
                    continue
                with self.assertRaises(Torn) as caught:
                    filled(book, digits)
                ways = caught.exception.ways
                self.assertEqual([sum(a * b for a, b in zip(ways, row)) % prime for row in rows], [0] * len(rows))
                self.assertNotEqual(ways[place], 0)

    def test_ends(self):
        self.equal(filled((3, 2, ()), (None, None)), (0, 0))
        self.equal(filled((3, 1, ()), (None,)), (0,))
        self.equal(filled((3, 1, ((1,),)), (2,)), (2,))
        self.equal(filled((3, 2, ()), (0, 0)), (0, 0))
        self.refused("Lost", {"within": (1,)}, filled, (2, 1, ((1,),)), (None,))
        self.refused("Torn", {"ways": (0, 1)}, filled, (2, 2, ()), (None, 1))
        self.equal(filled(TWINS, (None, 1, 1, None)), (1, 1, 1, 0))
        self.equal(filled(digits=(None, 0, 6, None), book=LINES), (1, 0, 6, 5))
        with self.assertRaises(Lost):
            filled(TWINS, (None,) * 4)
        with self.assertRaises(Torn):
            filled(TWINS, (1, 0, 0, 0))

    def test_none_on_a_stretch_alone(self):
        for size in (1, 2, 3, 4, 5, 6):
            book = (2, size, ())
            for digits in product((0, None), repeat=size):
                lost = [place for place in range(size) if digits[place] is None]
                if any(sorted(ring(size, *stretch)) == lost for stretch in all_stretches(size)):
                    self.equal(filled(book, digits), (0,) * size)
                else:
                    self.unusable("digits", filled, book, digits)

    def test_refused(self):
        for thing in ODD + ((0, 0, 0), (0,) * 5, (0, 0, 0, 2), (0, 0, 0, True), (0, False, None, 0), [0, 0, 0, 0],
                            (0, None, 0, None), (None, 0, None, 0), (0, 0, 0, "0"), (0, 0, 0, -1), (0, 0, 0, (0,))):
            self.unusable("digits", filled, TWINS, thing)
        with self.assertRaises(NotUsable):
            filled(LINES, (0, 0, 0, 7))


class Stretches(Held, unittest.TestCase):
    def test_against_words(self):
        for book in small_books():
            prime, size, _ = book
            words = words_by_sums(book)
            for stretch in all_stretches(size):
                places = ring(size, *stretch)
                inner = [word for word in words if not any(word[at] for at in range(size) if at not in places)]
                self.equal(open_words(book, stretch), span_of(prime, size, tuple(inner)))
                held = {tuple(word[at] for at in places) for word in words}
                self.equal(holds_any(book, stretch), len(held) == prime ** len(places))

    def test_ranks(self):
        for book in [LINES] + some_books(66, (5, 8, 12), each=1):
            for stretch in some_stretches(book[1]):
                inner = open_words(stretch=stretch, book=book)
                self.equal(rank_of(inner), open_rank(pattern_of(book), stretch))
                self.assertEqual(span_of(book[0], book[1], book[2] + inner[2]), book)
                places = ring(book[1], *stretch)
                self.assertFalse(any(row[at] for row in inner[2] for at in range(book[1]) if at not in places))

    def test_ends(self):
        for book in (TWINS, LINES, (3, 1, ()), (3, 1, ((1,),))):
            for start in range(book[1]):
                self.equal(open_words(book, (start, book[1])), book)
                self.equal(open_words(book, (start, 0)), book[:2] + ((),))
                self.equal(holds_any(stretch=(start, 0), book=book), True)
        self.equal([holds_any(TWINS, (3, 1)), holds_any(TWINS, (3, 2)), holds_any(TWINS, (3, 3))], [True, True, False])

    def test_refused(self):
        for thing in ODD + ((4, 1), (0, 5), (0, -1), (True, 1), (0, True), [0, 1], (0, 1, 2)):
            if not stretch_fits(4, thing):
                self.unusable("stretch", open_words, TWINS, thing)
                self.unusable("stretch", holds_any, TWINS, thing)


if __name__ == "__main__":
    unittest.main()
