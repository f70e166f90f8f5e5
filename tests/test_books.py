"""Books, their words and their checks [16], [17], [20]."""

import random
import unittest
from itertools import islice, product

from tests.helpers import LINES, PRIMES, TWINS, Held, all_books, small_books, some_books, words_by_sums
from throwshelves.books import checks_of, common, has_word, is_part, rank_of, span_of, together, words_of
from throwshelves.kinds import is_book


def closed(prime, size, words):
    """All sums of multiples of the words, by going on from noughts until nothing new comes."""
    found = {(0,) * size}
    for word in words:
        found = {tuple((a + m * b) % prime for a, b in zip(one, word)) for one in found for m in range(prime)}
    return found


class Words(Held, unittest.TestCase):
    def test_words_of(self):
        for book in small_books():
            words = list(words_of(book))
            self.equal(words, sorted(words_by_sums(book)), book)
            self.assertEqual(len(words), book[0] ** len(book[2]))

    def test_words_of_the_greatest(self):
        book = (2, 20, tuple(tuple(int(at == k or at == 19) for at in range(20)) for k in range(10)))
        words = list(words_of(book))
        self.assertEqual((len(words), words), (1024, sorted(words_by_sums(book))))
        full = (13, 20, tuple(tuple(int(at == k) for at in range(20)) for k in range(20)))
        self.assertEqual(list(islice(words_of(full), 14)), [(0,) * 19 + (d,) for d in range(13)] + [(0,) * 18 + (1, 0)])

    def test_words_of_no_rows(self):
        for prime in PRIMES:
            self.equal(list(words_of((prime, 3, ()))), [(0, 0, 0)])
            self.equal(list(words_of((prime, 1, ((1,),)))), [(digit,) for digit in range(prime)])

    def test_has_word(self):
        for book in small_books():
            prime, size, _ = book
            words = words_by_sums(book)
            for word in product(range(prime), repeat=size):
                self.assertIs(has_word(book, word), word in words)

    def test_rank_of(self):
        for book in small_books():
            self.equal(rank_of(book), len(book[2]))


class Span(Held, unittest.TestCase):
    def test_all_pairs_of_words(self):
        for prime, size in ((2, 1), (2, 2), (2, 3), (3, 2), (5, 1), (5, 2), (11, 1), (13, 1)):
            all_words = list(product(range(prime), repeat=size))
            for words in product(all_words, repeat=2):
                book = span_of(prime, size, words)
                self.assertTrue(is_book(book))
                self.assertEqual(book[:2], (prime, size))
                self.assertEqual(words_by_sums(book), closed(prime, size, words))

    def test_many_words(self):
        chance = random.Random(3)
        for prime in PRIMES:
            for size in (1, 3, 12, 20):
                for many in (0, 1, 2, size, size + 3):
                    words = tuple(tuple(chance.randrange(prime) for _ in range(size)) for _ in range(many))
                    book = span_of(prime, size, words)
                    self.assertTrue(is_book(book))
                    self.assertTrue(all(has_word(book, word) for word in words))
                    self.assertLessEqual(rank_of(book), min(many, size))
                    turned = list(words)
                    chance.shuffle(turned)
                    self.equal(span_of(prime, size, tuple(turned) + words), book)

    def test_no_words_and_noughts(self):
        self.equal(span_of(3, 2, ()), (3, 2, ()))
        self.equal(span_of(3, 2, ((0, 0), (0, 0))), (3, 2, ()))
        self.equal(span_of(3, 10 ** 59, ()), (3, 10 ** 59, ()))

    def test_rows_give_the_book_back(self):
        for book in small_books() + some_books(4, (1, 2, 7, 12, 20)):
            self.equal(span_of(*book), book)


class Pairs(Held, unittest.TestCase):
    def pairs(self):
        families = [all_books(2, 1), all_books(2, 2), all_books(2, 3), all_books(3, 2), all_books(5, 1)]
        return [(one, other) for books in families for one in books for other in books]

    def test_against_words(self):
        for one, other in self.pairs():
            mine, others = words_by_sums(one), words_by_sums(other)
            self.assertIs(is_part(one, other), mine <= others)
            self.assertEqual(words_by_sums(common(one, other)), mine & others)
            self.assertEqual(words_by_sums(together(one, other)), closed(one[0], one[1], one[2] + other[2]))
            self.assertTrue(is_book(common(one, other)) and is_book(together(one, other)))

    def test_ranks_and_checks(self):
        books = some_books(5, (1, 2, 3, 6, 12, 20))
        more = some_books(6, (1, 2, 3, 6, 12, 20))
        pairs = self.pairs() + [(one, other) for one in books for other in more if one[:2] == other[:2]]
        for one, other in pairs:
            both, shared = together(one, other), common(one, other)
            self.assertTrue(is_book(both) and is_book(shared))
            self.assertEqual(rank_of(both) + rank_of(shared), rank_of(one) + rank_of(other))
            self.assertTrue(is_part(one, both) and is_part(other, both) and is_part(shared, one))
            self.equal(checks_of(both), common(checks_of(one), checks_of(other)))
            self.equal(together(other, one), both)
            self.equal(common(other, one), shared)

    def test_checks_by_words(self):
        for book in small_books():
            prime, size, _ = book
            words = words_by_sums(book)
            wanted = {word for word in product(range(prime), repeat=size)
                      if all(sum(a * b for a, b in zip(word, one)) % prime == 0 for one in words)}
            self.assertEqual(words_by_sums(checks_of(book)), wanted)

    def test_checks_of_checks(self):
        for book in small_books() + some_books(7, (1, 2, 5, 12, 20)):
            checks = checks_of(book)
            self.assertTrue(is_book(checks))
            self.assertEqual(rank_of(checks), book[1] - rank_of(book))
            self.equal(checks_of(checks), book)
            for one in book[2]:
                for other in checks[2]:
                    self.assertEqual(sum(a * b for a, b in zip(one, other)) % book[0], 0)

    def test_no_rows_and_full_rank(self):
        for prime in PRIMES:
            empty, full = (prime, 3, ()), (prime, 3, ((1, 0, 0), (0, 1, 0), (0, 0, 1)))
            self.equal(checks_of(empty), full)
            self.equal(checks_of(full), empty)
            self.equal(together(empty, full), full)
            self.equal(common(empty, full), empty)
            self.assertEqual([is_part(empty, full), is_part(full, empty), is_part(full, full)], [True, False, True])

    def test_handed_in_stays(self):
        kept = (repr(LINES), repr(TWINS))
        for book in (LINES, TWINS):
            together(book, book), common(book, book), checks_of(book), list(words_of(book))
        self.assertEqual((repr(LINES), repr(TWINS)), kept)


if __name__ == "__main__":
    unittest.main()
