"""The checker of papers that show the pattern of a book [41], with [34], [35], [40]."""

import unittest
from itertools import product

from tests.helpers import LINES, ODD, THROWS, TWINS, Held, patterns_by_orders, small_books, some_books, word_fits
from throwshelves.bookpatterns import mend_digits, pattern_of
from throwshelves.papercheckers import lets_pattern_of
from throwshelves.patternpapers import pattern_paper

SUMS = ((1,), (1, 1), (1, 1), (0, 1, 1))


def comes_to_it(book, place, throw, digits):
    """Whether in each row the digits, times what the next places have there, come to what the place has."""
    prime, size, rows = book
    return all(sum(digit * row[(place + 1 + k) % size] for k, digit in enumerate(digits)) % prime == row[place]
               for row in rows)


def stands(book, place, throw, thing):
    if throw == book[1]:
        return thing is None
    if thing == () == (0,) * throw:
        return comes_to_it(book, place, throw, thing)
    return word_fits(book[0], throw, thing) and comes_to_it(book, place, throw, thing)


class Accepted(Held, unittest.TestCase):
    def test_papers_of_the_program(self):
        for book in small_books() + some_books(41, (5, 8, 12, 20), each=1):
            self.equal(lets_pattern_of(book, pattern_paper(book)), pattern_of(book))
        self.equal(lets_pattern_of(thing=pattern_paper(LINES), book=LINES), (2, 2, 2, 2))

    def test_just_what_is_told(self):
        """All patterns, with all tuples of digits at one place at a time, others being as mend_digits has them."""
        for book in [book for book in small_books() if book[1] <= 3 and book[0] <= 3] + [TWINS]:
            prime, size, rows = book
            right = tuple(mend_digits(book, place) for place in range(size))
            for throws in patterns_by_orders(size):
                if sum(throws) != len(rows) * size:
                    self.invalid("balls", -1, lets_pattern_of, book, ("throws", throws, right))
                    continue
                for place in range(size):
                    things = [digits for many in range(min(size, 3) + 1) for digits in product(range(prime), repeat=many)]
                    for thing in things + [None]:
                        sums = right[:place] + (thing,) + right[place + 1:]
                        self.check(book, throws, sums)

    def check(self, book, throws, sums):
        faults = [place for place in range(book[1]) if not stands(book, place, throws[place], sums[place])]
        if faults:
            self.invalid("sum", faults[0], lets_pattern_of, book, ("throws", throws, sums))
        else:
            self.equal(lets_pattern_of(book, ("throws", throws, sums)), throws)
            self.assertEqual(throws, pattern_of(book))

    def test_any_right_digits(self):
        # The columns of the next three places of shelf 3 are not free of each other, so several digits stand.
        for last in ((0, 1, 1), (1, 0, 1)):
            self.equal(lets_pattern_of(TWINS, ("throws", THROWS, SUMS[:3] + (last,))), THROWS)
        self.invalid("sum", 3, lets_pattern_of, TWINS, ("throws", THROWS, SUMS[:3] + ((1, 1, 1),)))


class Refused(Held, unittest.TestCase):
    def test_shape(self):
        for thing in ODD + (("throws", THROWS), ["throws", THROWS, SUMS], ("throws", THROWS, SUMS, 0),
                            ("pattern", THROWS, SUMS), (True, THROWS, SUMS), (("throws",), THROWS, SUMS),
                            ("throws", list(THROWS), SUMS), ("throws", (1, 2, 2), SUMS), ("throws", (0, 0, 0), SUMS[:3]),
                            ("throws", (2, 1, 3, 2), SUMS), ("throws", (True, 2, 2, 3), SUMS),
                            ("throws", (1, 2, 2, 7), SUMS), ("throws", THROWS, SUMS[:3]), ("throws", THROWS, list(SUMS)),
                            ("throws", THROWS, SUMS + (None,)), ("throws", THROWS, None), ("throws", (), ()), "throws",
                            ("throws", (2, 2, 2), SUMS), ("throws", (2, 2, 2, 2, 2), SUMS), ("throws", (0,), SUMS)):
            self.invalid("shape", -1, lets_pattern_of, TWINS, thing)

    def test_balls(self):
        for throws in ((0, 0, 0, 0), (1, 1, 1, 1), (4, 4, 4, 4), (3, 3, 3, 3)):
            self.invalid("balls", -1, lets_pattern_of, TWINS, ("throws", throws, (None,) * 4))
            self.invalid("balls", -1, lets_pattern_of, TWINS, ("throws", throws, SUMS))

    def test_sum(self):
        for thing in ODD + ((True,), (1, 0), (0,), (2,), [1]):
            if not (type(thing) is tuple and thing == (1,) and thing[0] is not True):
                self.invalid("sum", 0, lets_pattern_of, TWINS, ("throws", THROWS, (thing,) + SUMS[1:]))
        for place in range(4):
            for bad in (None, (), (0,), (0, 0), (2, 1), (1, 2), (0, 0, 0), (0, True, 1), (1, True), (True, 1), [1, 1]):
                sums = SUMS[:place] + (bad,) + SUMS[place + 1:]
                self.invalid("sum", place, lets_pattern_of, TWINS, ("throws", THROWS, sums))
                sums = sums[:place + 1] + (None,) * (3 - place)
                self.invalid("sum", place, lets_pattern_of, TWINS, ("throws", THROWS, sums))

    def test_none_for_the_size_alone(self):
        book = (3, 2, ((1, 0),))
        self.equal(lets_pattern_of(book, ("throws", (2, 0), (None, ()))), (2, 0))
        for first in ODD + ((0, 0), (0,), (1, 1)):
            if first is not None:
                self.invalid("sum", 0, lets_pattern_of, book, ("throws", (2, 0), (first, ())))
        for second in ODD + ((0,), [None]):
            if second != ():
                self.invalid("sum", 1, lets_pattern_of, book, ("throws", (2, 0), (None, second)))
        self.invalid("sum", 0, lets_pattern_of, book, ("throws", (1, 1), ((0,), (0,))))
        self.invalid("sum", 0, lets_pattern_of, book, ("throws", (0, 2), ((), None)))

    def test_the_first_that_applies(self):
        self.invalid("shape", -1, lets_pattern_of, TWINS, ("throws", (1, 1, 1, 1), (None,) * 3))
        self.invalid("balls", -1, lets_pattern_of, TWINS, ("throws", (1, 1, 1, 1), (None,) * 4))
        self.invalid("sum", 1, lets_pattern_of, TWINS, ("throws", THROWS, SUMS[:1] + (None,) * 3))


if __name__ == "__main__":
    unittest.main()
