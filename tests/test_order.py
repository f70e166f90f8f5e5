"""Which pattern lies below which [73] to [77], with [9], [10] (G5)."""

import random
import unittest
from functools import cache
from itertools import combinations
from math import comb

from tests.helpers import (ODD, THROWS, Held, all_below, all_matches, close_swaps, falls_of, landing, number, pattern_fits,
                           patterns_by_orders, rank_by_throws, size_fits, some_patterns, swaps_down, table_by_throws)
from throwshelves.duals import checks_pattern
from throwshelves.order import barring_stretch, chain_to, covered_by, covers_of, lies_below, lowest_of
from throwshelves.swaps import depth_of
from throwshelves.turns import mirrored_pattern, turned_pattern

LEVEL = (2, 2, 2, 2)


@cache
def ranks(pattern):
    return table_by_throws(pattern)


def first_greater(one, other):
    """The shortest stretch, of these the first one, whose rank is greater in the one."""
    size = len(one)
    for length in range(size + 1):
        for start in range(size):
            if ranks(one)[start][length] > ranks(other)[start][length]:
                return (start, length)
    return None


def lower_walk(chance, pattern, steps):
    """A pattern to which so many lowering swaps lead, or as many as there are."""
    for _ in range(steps):
        if swaps_down(pattern):
            pattern = chance.choice(sorted(swaps_down(pattern).values()))
    return pattern


def far_pairs(seed, sizes, each):
    """Pairs of which the first one lies below the second one."""
    chance = random.Random(seed)
    for size in sizes:
        for _ in range(each):
            high = lower_walk(chance, (chance.randint(1, size - 1),) * size, chance.randint(0, 4))
            yield lower_walk(chance, high, chance.randint(0, 8)), high


def pairs_of_matches():
    """All pairs of one size and as many balls, of one to four places, and pairs of five by chance."""
    chance = random.Random(90)
    for found in all_matches((1, 2, 3, 4, 5)):
        for one in found:
            for other in found if len(one) < 5 else chance.sample(found, min(12, len(found))):
                yield one, other


class Order(Held, unittest.TestCase):
    def chained(self, one, other):
        chain, pattern = chain_to(one, other), other
        self.assertIs(type(chain), tuple)
        for pair in chain:
            self.assertTrue(type(pair) is tuple and all(type(i) is int for i in pair))
            pattern = close_swaps(pattern)[pair]
        self.equal(pattern, one)
        self.equal(len(chain), depth_of(one) - depth_of(other))

    def test_all_pairs(self):
        for one, other in pairs_of_matches():
            below = one in all_below(other)
            self.assertIs(lies_below(one, other), below)
            self.assertIs(lies_below(other=other, one=one), below)
            self.equal(barring_stretch(one, other), first_greater(one, other))
            self.assertIs(first_greater(one, other) is None, below)

    def test_all_pairs_of_five_places(self):
        for found in all_matches((5,)):
            for other in found:
                below = all_below(other)
                for one in found:
                    self.assertIs(lies_below(one, other), one in below)
                    self.equal(barring_stretch(one, other), first_greater(one, other))
                    if one in below:
                        self.chained(one, other)

    def test_the_stretch_is_the_shortest(self):
        for one, other in pairs_of_matches():
            stretch = barring_stretch(one, other)
            if stretch is not None:
                self.assertTrue(0 < stretch[1] < len(one))
                self.assertGreater(rank_by_throws(one, *stretch), rank_by_throws(other, *stretch))
        self.equal(barring_stretch((0, 4, 4, 0), (4, 0, 0, 4)), (1, 1))

    def test_chains(self):
        for one, other in pairs_of_matches():
            if one in all_below(other):
                self.chained(one, other)
            else:
                self.equal(chain_to(one, other), None)

    def test_greater_ones(self):
        for one, other in far_pairs(91, (6, 7, 9, 12), 8):
            self.assertIs(lies_below(one, other), True)
            self.equal(barring_stretch(one, other), None)
            self.chained(one, other)
            if one != other:
                self.assertIs(lies_below(other, one), False)
                self.equal(barring_stretch(other, one), first_greater(other, one))
                self.equal(chain_to(other, one), None)
        lowest, level = (12,) * 6 + (0,) * 6, (6,) * 12
        self.chained(lowest, level)
        self.equal(len(chain_to(one=lowest, other=level)), 36)

    def test_refused(self):
        for other in ODD + (list(THROWS), (1, 0), (2, 1, 3, 2), (2, 2), (2, 2, 2), (1, 1, 1, 1), (0,) * 4, (3,) * 4,
                            (2, 2, 2, True), "throws 2", (2, 2, 2, 2, 2)):
            if not (pattern_fits(other) and len(other) == 4 and sum(other) == 8):
                for call in (lies_below, barring_stretch, chain_to):
                    self.unusable("other", call, THROWS, other)
                    self.unusable("other", call, one=THROWS, other=other)


class Consequences(Held, unittest.TestCase):
    def test_it_is_an_order(self):
        for found in all_matches((1, 2, 3, 4)):
            below = {other: {one for one in found if lies_below(one, other)} for other in found}
            for other in found:
                self.assertIn(other, below[other])
                for one in below[other]:
                    self.assertTrue(one == other or other not in below[one])
                    self.assertLessEqual(below[one], below[other])

    def test_turned_mirrored_checked(self):
        chance = random.Random(92)
        pairs = list(pairs_of_matches())
        for one, other in chance.sample(pairs, 600) + list(far_pairs(93, (6, 9), 4)):
            k = chance.randint(-9, 9)
            for change in (lambda p: turned_pattern(p, k), mirrored_pattern, checks_pattern):
                self.assertIs(lies_below(change(one), change(other)), lies_below(one, other))
                self.equal(depth_of(change(one)), depth_of(one))

    def test_depths_of_swaps(self):
        for pattern in [p for found in all_matches((2, 3, 4, 5)) for p in found]:
            for (i, j), low in swaps_down(pattern).items():
                near, far = landing(pattern, i), landing(pattern, j)
                between = [m for m in range(i + 1, j) if near < landing(pattern, m) < far]
                self.equal(depth_of(low), depth_of(pattern) + 1 + 2 * len(between))

    def test_the_levels_and_the_lowest(self):
        for size in (1, 2, 3, 4, 5):
            for balls in range(size + 1):
                lowest = lowest_of(size, balls)
                for pattern in all_matches((size,))[balls]:
                    self.assertIs(lies_below(pattern, (balls,) * size), True)
                    self.assertTrue(any(lies_below(low, pattern) for low in lowest))
                    self.assertLessEqual(depth_of(pattern), balls * (size - balls))
                for low in lowest:
                    self.equal(depth_of(low), balls * (size - balls))


class Covers(Held, unittest.TestCase):
    def many_patterns(self):
        return [p for size in (1, 2, 3, 4, 5) for p in patterns_by_orders(size)] + some_patterns(94, (7, 12), each=3)

    def test_covers(self):
        above = {}
        for pattern in self.many_patterns():
            lower = set(close_swaps(pattern).values())
            self.equal(covers_of(pattern), tuple(sorted(lower)))
            self.equal(len(close_swaps(pattern)), len(lower))
            for low in lower:
                above.setdefault(low, set()).add(pattern)
        for pattern in [p for size in (1, 2, 3, 4, 5) for p in patterns_by_orders(size)]:
            self.equal(covered_by(pattern), tuple(sorted(above.get(pattern, ()))))

    def test_both_ways(self):
        for pattern in self.many_patterns():
            for low in covers_of(pattern):
                self.assertIn(pattern, covered_by(low))
            for high in covered_by(pattern):
                self.assertIn(pattern, covers_of(high))
                self.equal(depth_of(high), depth_of(pattern) - 1)

    def test_how_many(self):
        for pattern in self.many_patterns():
            high = covered_by(pattern)
            self.assertLessEqual(len(high), depth_of(pattern))
            self.assertIs(high == (), depth_of(pattern) == 0)
            self.assertIs(covers_of(pattern) == (), set(pattern) <= {0, len(pattern)})

    def test_lowest(self):
        for size in (1, 2, 3, 4, 5):
            for balls in range(size + 1):
                found = [p for p in all_matches((size,))[balls] if all_below(p) == {p}]
                self.equal(lowest_of(size, balls), tuple(found))
        for size in (6, 9, 10):
            for balls in range(size + 1):
                wanted = sorted(tuple(size * (at in full) for at in range(size))
                                for full in combinations(range(size), balls))
                self.equal(lowest_of(balls=balls, size=size), tuple(wanted))
                self.equal(len(wanted), comb(size, balls))
        self.equal(falls_of(lowest_of(10, 5)[7]), 25)

    def test_lowest_refuses(self):
        for thing in ODD + (-1, 0, 5, "4"):
            if not size_fits(thing):
                self.unusable("size", lowest_of, thing, 2)
                self.unusable("size", lowest_of, thing, None)
            if not (number(thing) and thing <= 4):
                self.unusable("balls", lowest_of, 4, thing)
                self.unusable("balls", lowest_of, balls=thing, size=4)


if __name__ == "__main__":
    unittest.main()
