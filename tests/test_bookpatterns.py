"""Patterns of books, and how places are mended [7], [10], [34], [35], [40]."""

import random
import unittest

from tests.helpers import LINES, PRIMES, TWINS, Held, rank_by_words, ring, small_books, some_books, words_by_sums
from throwshelves.bookpatterns import back_throw, keep_word, mend_digits, pattern_of, throw_at
from throwshelves.books import has_word, rank_of, span_of, words_of
from throwshelves.columns import columns_of, stretch_rank
from throwshelves.patternpapers import pattern_paper
from throwshelves.patterns import balls_of, is_throws
from throwshelves.ranktables import rank_by


def greater_books():
    return some_books(18, (3, 5, 8, 12, 20), each=1)


def throws_by_words(book, step):
    """How many places on, or back, tell the digit of each place, by all words."""
    prime, size, _ = book
    words, throws = words_by_sums(book), []
    for place in range(size):
        throw = size
        for many in reversed(range(size)):
            others = [(place + step * k) % size for k in range(1, many + 1)]
            if rank_by_words(prime, words, others) == rank_by_words(prime, words, others + [place]):
                throw = many
        throws.append(throw)
    return tuple(throws)


class Patterns(Held, unittest.TestCase):
    def test_against_words(self):
        for book in small_books():
            wanted, back = throws_by_words(book, 1), throws_by_words(book, -1)
            self.equal(pattern_of(book), wanted)
            self.equal(tuple(throw_at(book, place) for place in range(book[1])), wanted)
            self.equal(tuple(back_throw(book, place) for place in range(book[1])), back)

    def test_guarantees(self):
        for book in small_books() + greater_books():
            pattern, size = pattern_of(book), book[1]
            self.assertTrue(is_throws(pattern))
            self.assertEqual(balls_of(pattern), rank_of(book))
            for place in range(size):
                self.equal(throw_at(book, place), pattern[place])
                self.equal(back_throw(book, (place + pattern[place]) % size), pattern[place])

    def test_stretches_have_the_ranks(self):
        for book in small_books() + some_books(19, (3, 5, 8, 12), each=1):
            pattern, size = pattern_of(book), book[1]
            for start in range(size):
                for length in range(size + 1):
                    self.equal(rank_by(pattern, (start, length)), stretch_rank(book, (start, length)))

    def test_scaled_words_have_the_pattern(self):
        chance = random.Random(20)
        for book in small_books() + greater_books():
            prime, size, rows = book
            digits = [chance.randrange(1, prime) for _ in range(size)]
            words = tuple(tuple(one * digit % prime for one, digit in zip(row, digits)) for row in rows)
            self.equal(pattern_of(span_of(prime, size, words)), pattern_of(book))

    def test_no_rows_full_rank_and_noughts(self):
        for prime in PRIMES:
            for size in (1, 2, 5, 20):
                self.equal(pattern_of((prime, size, ())), (0,) * size)
                full = (prime, size, tuple(tuple(int(at == k) for at in range(size)) for k in range(size)))
                self.equal(pattern_of(full), (size,) * size)
                self.equal([back_throw(full, size - 1), back_throw((prime, size, ()), 0)], [size, 0])
            self.equal(pattern_of((prime, 3, ((0, 1, 1),))), (0, 1, 2))
            self.equal([back_throw((prime, 3, ((0, 1, 1),)), place) for place in range(3)], [0, 2, 1])

    def test_refused(self):
        for call in (throw_at, back_throw, mend_digits, keep_word):
            for place in (4, -1, True, None, "0", (0,), [0], 10 ** 59):
                self.unusable("place", call, TWINS, place)


class Menders(Held, unittest.TestCase):
    def checked_digits(self, book, place):
        """That the digits are what is asked for."""
        prime, size, rows = book
        throw, digits = throw_at(book, place), mend_digits(book, place)
        if throw == size:
            self.assertIsNone(digits)
            return
        self.assertIs(type(digits), tuple)
        self.assertEqual(len(digits), throw)
        self.assertTrue(all(type(digit) is int and 0 <= digit < prime for digit in digits))
        columns, others = columns_of(book), ring(size, place + 1, throw)
        for k in range(len(rows)):
            self.assertEqual(sum(d * columns[other][k] for d, other in zip(digits, others)) % prime, columns[place][k])

    def checked_word(self, book, place):
        """That the word is what is asked for."""
        prime, size, _ = book
        throw, word = throw_at(book, place), keep_word(book, place)
        if throw == 0:
            self.assertIsNone(word)
            return
        self.assertIs(type(word), tuple)
        self.assertTrue(has_word(book, word))
        self.equal(word[place], 1)
        self.equal([word[other] for other in ring(size, place + 1, throw - 1)], [0] * (throw - 1))

    def test_digits_and_words(self):
        for book in small_books() + greater_books():
            for place in range(book[1]):
                self.checked_digits(book, place)
                self.checked_word(book, place)

    def test_words_have_the_sum(self):
        for book in small_books() + [LINES]:
            prime, size, _ = book
            for place in range(size):
                digits = mend_digits(book, place)
                if digits is not None:
                    others = ring(size, place + 1, len(digits))
                    for word in words_of(book):
                        self.assertEqual(sum(d * word[at] for d, at in zip(digits, others)) % prime, word[place])

    def test_ends(self):
        self.equal([mend_digits((2, 1, ()), 0), keep_word((2, 1, ()), 0)], [(), None])
        self.equal([mend_digits((5, 1, ((1,),)), 0), keep_word((5, 1, ((1,),)), 0)], [None, (1,)])
        self.equal([mend_digits((3, 3, ()), 1), keep_word((3, 3, ()), 1)], [(), None])
        self.equal([mend_digits((3, 2, ((1, 0), (0, 1))), 1), keep_word((3, 2, ((1, 0), (0, 1))), 1)], [None, (0, 1)])


class Papers(Held, unittest.TestCase):
    def test_papers(self):
        # A paper as the document tells it: the pattern, and for each place what mends it for this throw.
        for book in small_books() + greater_books():
            prime, size, rows = book
            paper = pattern_paper(book)
            self.assertEqual((type(paper), len(paper), paper[0]), (tuple, 3, "throws"))
            _, throws, sums = paper
            self.assertTrue(is_throws(throws))
            self.equal(throws, pattern_of(book))
            self.assertEqual((len(throws), balls_of(throws)), (size, rank_of(book)))
            self.assertEqual((type(sums), len(sums)), (tuple, size))
            for place, (throw, digits) in enumerate(zip(throws, sums)):
                if throw == size:
                    self.assertIsNone(digits)
                    continue
                self.assertEqual((type(digits), len(digits)), (tuple, throw))
                self.assertTrue(all(type(digit) is int and 0 <= digit < prime for digit in digits))
                others = ring(size, place + 1, throw)
                for row in rows:
                    self.assertEqual(sum(d * row[at] for d, at in zip(digits, others)) % prime, row[place])

    def test_shown(self):
        self.equal(pattern_paper((3, 2, ((1, 0),))), ("throws", (2, 0), (None, ())))
        self.equal(pattern_paper(book=(3, 1, ())), ("throws", (0,), ((),)))
        self.equal(pattern_paper((3, 1, ((1,),))), ("throws", (1,), (None,)))
        # The column of place 3 is the sum of those of place 2 and of any one of places 0 and 1.
        self.equal(pattern_paper(TWINS)[:2], ("throws", (1, 2, 2, 3)))
        self.equal(pattern_paper(TWINS)[2][:3], ((1,), (1, 1), (1, 1)))
        self.assertIn(pattern_paper(TWINS)[2][3], ((0, 1, 1), (1, 0, 1)))


if __name__ == "__main__":
    unittest.main()
