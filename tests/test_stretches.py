"""The greatest free stretches, and the least full ones [39]."""

import unittest

from tests.helpers import Held, patterns_by_orders, rank_by_throws, some_patterns
from throwshelves.patterns import balls_of
from throwshelves.stretches import free_stretches, full_stretches


def many_patterns():
    return [p for size in (1, 2, 3, 4, 5) for p in patterns_by_orders(size)] + some_patterns(24, (6, 9, 12), each=3)


def all_free(pattern):
    size = len(pattern)
    return {(start, length) for start in range(size) for length in range(1, size + 1)
            if not any(k + pattern[(start + k) % size] < length for k in range(length))}


def all_full(pattern):
    size = len(pattern)
    return {(start, length) for start in range(size) for length in range(size + 1)
            if rank_by_throws(pattern, start, length) == sum(pattern) // size}


class Stretches(Held, unittest.TestCase):
    def test_free(self):
        for pattern in many_patterns():
            size, free = len(pattern), all_free(pattern)
            wanted = {(start, length) for start, length in free if length == size or not
                      {(start, length + 1), ((start - 1) % size, length + 1)} & free}
            self.equal(free_stretches(pattern), tuple(sorted(wanted)))

    def test_full(self):
        for pattern in many_patterns():
            size, full = len(pattern), all_full(pattern)
            wanted = {(start, length) for start, length in full if length == 0 or not
                      {(start, length - 1), ((start + 1) % size, length - 1)} & full}
            self.equal(full_stretches(pattern), tuple(sorted(wanted)))
            if balls_of(pattern) == 0:
                self.equal(full_stretches(pattern), tuple((start, 0) for start in range(size)))

    def test_free_ones_hold_their_length(self):
        for pattern in many_patterns():
            for start, length in free_stretches(pattern):
                self.assertEqual(rank_by_throws(pattern, start, length), length)

    def test_ends(self):
        self.equal([free_stretches((0,)), full_stretches((0,))], [(), ((0, 0),)])
        self.equal([free_stretches((1,)), full_stretches((1,))], [((0, 1),), ((0, 1),)])
        self.equal([free_stretches((0, 0)), full_stretches((0, 0))], [(), ((0, 0), (1, 0))])
        whole = ((0, 3), (1, 3), (2, 3))
        self.equal([free_stretches((3, 3, 3)), full_stretches((3, 3, 3))], [whole, whole])
        self.equal([free_stretches((3, 0, 0)), full_stretches((3, 0, 0))], [((0, 1),), ((0, 1),)])
        self.equal(free_stretches(pattern=(1, 1, 1)), ((0, 1), (1, 1), (2, 1)))


if __name__ == "__main__":
    unittest.main()
