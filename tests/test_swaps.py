"""Swaps of patterns, and their depth [9], [26], [27]."""

import unittest

from tests.helpers import ODD, THROWS, Held, integer, number, patterns_by_orders, some_patterns
from throwshelves.patterns import balls_of, is_throws
from throwshelves.swaps import can_swap, depth_of, lowering_swaps, raising_swaps, swapped


def many_patterns():
    return [p for size in (1, 2, 3, 4) for p in patterns_by_orders(size)] + some_patterns(15, (5, 6, 9, 12), each=4)


def landing(pattern, i):
    return i + pattern[i % len(pattern)]


def swap_by_landings(pattern, i, j):
    """The throws after the swap, from the landings of all integers of some rounds; None if they are no throws."""
    size = len(pattern)
    landings = {k: landing(pattern, k) for k in range(-2 * size, 4 * size)}
    for turn in range(-2, 3):
        one, other = i + turn * size, j + turn * size
        if one in landings and other in landings:
            landings[one], landings[other] = landing(pattern, other), landing(pattern, one)
    throws = tuple(landings[k] - k for k in range(size))
    return throws if all(0 <= throw <= size for throw in throws) else None


def pairs_of(pattern):
    size = len(pattern)
    return [(i, j) for i in range(size) for j in range(i + 1, i + size)]


class Swaps(Held, unittest.TestCase):
    def test_swaps(self):
        for pattern in many_patterns():
            lowering, raising = [], []
            for i, j in pairs_of(pattern):
                wanted = swap_by_landings(pattern, i, j)
                self.assertIs(can_swap(pattern, i, j), wanted is not None)
                if wanted is None:
                    self.unusable("j", swapped, pattern, i, j)
                    continue
                self.equal(swapped(pattern, i, j), wanted)
                falls = landing(pattern, i) > landing(pattern, j)
                (raising if falls else lowering).append((i, j))
            self.equal(lowering_swaps(pattern), tuple(lowering))
            self.equal(raising_swaps(pattern), tuple(raising))

    def test_depth(self):
        for pattern in many_patterns():
            size = len(pattern)
            falls = [(i, j) for i in range(size) for j in range(i + 1, i + 3 * size)
                     if landing(pattern, i) > landing(pattern, j)]
            self.equal(depth_of(pattern), len(falls))
            self.assertIs(depth_of(pattern) == 0, len(set(pattern)) == 1)
            self.assertLessEqual(depth_of(pattern), balls_of(pattern) * (size - balls_of(pattern)))

    def test_consequences(self):
        for pattern in many_patterns():
            for pairs, sign in ((lowering_swaps(pattern), 1), (raising_swaps(pattern), -1)):
                for i, j in pairs:
                    other = swapped(pattern, i, j)
                    self.assertTrue(is_throws(other))
                    self.assertEqual(balls_of(other), balls_of(pattern))
                    self.equal(swapped(other, i, j), pattern)
                    self.assertGreater((depth_of(other) - depth_of(pattern)) * sign, 0)

    def test_the_deepest(self):
        for pattern in ((3, 0, 0), (0, 3, 0), (4, 4, 0, 0), (0, 0, 0, 0, 5)):
            size = len(pattern)
            self.assertEqual(depth_of(pattern), balls_of(pattern) * (size - balls_of(pattern)))
            self.equal(lowering_swaps(pattern), ())

    def test_one_place(self):
        for pattern in ((0,), (1,)):
            self.equal([depth_of(pattern), lowering_swaps(pattern), raising_swaps(pattern)], [0, (), ()])
            for j in (-1, 0, 1, 2):
                self.unusable("j", can_swap, pattern, 0, j)
                self.unusable("j", swapped, pattern, 0, j)

    def test_all_throws_alike(self):
        for size in (2, 3, 5, 12):
            for throw in range(size + 1):
                pattern = (throw,) * size
                self.equal([depth_of(pattern), raising_swaps(pattern)], [0, ()])
                self.assertIs(lowering_swaps(pattern) == (), throw in (0, size))

    def test_refused(self):
        for call in (can_swap, swapped):
            for thing in ODD + (4, -1, "0"):
                if not (number(thing) and thing < 4):
                    self.unusable("i", call, THROWS, thing, None)
                if not (integer(thing) and 2 < thing < 6):
                    self.unusable("j", call, THROWS, 2, thing)
            for i in range(4):
                self.unusable("j", call, THROWS, i, i)
                self.unusable("j", call, THROWS, i, i + 4)
                self.unusable("j", call, THROWS, i, i - 1)
        self.unusable("j", swapped, (0, 2), 0, 1)
        self.unusable("j", swapped, pattern=(2, 2), i=1, j=2)


if __name__ == "__main__":
    unittest.main()
