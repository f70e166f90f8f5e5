"""Patterns counted and gone through [28], [29]."""

import types
import unittest
from math import comb, factorial

from tests.helpers import ODD, Held, number, patterns_by_orders, size_fits
from throwshelves.patterncounts import level_pattern, pattern_count, patterns_of


class Counts(Held, unittest.TestCase):
    def test_against_all_orders(self):
        for size in range(1, 7):
            patterns = patterns_by_orders(size)
            for balls in range(size + 3):
                wanted = [pattern for pattern in patterns if sum(pattern) == balls * size]
                self.equal(list(patterns_of(size, balls)), wanted)
                self.equal(pattern_count(size, balls), len(wanted))

    def test_level(self):
        for size in (1, 2, 3, 6, 12):
            for balls in range(size + 1):
                self.equal(level_pattern(size, balls), (balls,) * size)

    def test_consequences(self):
        for size in range(1, 13):
            counts = [pattern_count(size, balls) for balls in range(size + 1)]
            self.assertEqual(counts, counts[::-1])
            self.assertEqual(counts[1], 2 ** size - 1)
            self.assertEqual(sum(counts), sum(factorial(size) // factorial(k) for k in range(size + 1)))
            self.assertEqual([counts[0], pattern_count(size, size + 1), pattern_count(size, 10 ** 59)], [1, 0, 0])

    def test_the_sum_over_full_places(self):
        # How many orders bring so many places to a lesser one, by the known alternating sum.
        def orders(many, falls):
            if many == 0:
                return int(falls == 0)
            return sum((-1) ** k * comb(many + 1, k) * (falls + 1 - k) ** many for k in range(falls + 1))
        for size in range(1, 13):
            for balls in range(size + 1):
                wanted = sum(comb(size, m) * orders(size - m, balls - m) for m in range(balls + 1))
                self.equal(pattern_count(size, balls), wanted)

    def test_turned_about(self):
        for size in range(1, 6):
            for balls in range(size + 1):
                others = set()
                for pattern in patterns_of(size, balls):
                    throws = [size - throw for throw in pattern]
                    others.add(tuple(throws[-k % size] for k in range(size)))
                self.assertEqual(sorted(others), list(patterns_of(size, size - balls)))

    def test_a_generator(self):
        self.assertIsInstance(patterns_of(3, 1), types.GeneratorType)
        self.assertIsInstance(patterns_of(None, None), types.GeneratorType)
        self.equal(list(patterns_of(2, 3)), [])
        self.equal(next(patterns_of(12, 6)), (0, 0, 0, 0, 0, 0, 12, 12, 12, 12, 12, 12))

    def test_refused(self):
        def first(size, balls):
            return next(patterns_of(size, balls))
        for call in (pattern_count, first, level_pattern):
            for thing in ODD + (0, -1, "1"):
                if not size_fits(thing):
                    self.unusable("size", call, thing, None)
                if not number(thing):
                    self.unusable("balls", call, 3, thing)
        for size, balls in ((1, 2), (3, 4), (12, 10 ** 59)):
            self.unusable("balls", level_pattern, size, balls)
            self.unusable("balls", level_pattern, balls=balls, size=size)


if __name__ == "__main__":
    unittest.main()
