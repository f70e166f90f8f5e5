"""Patterns between patterns [78] to [80], with the head of stage 20."""

import random
import unittest
from functools import cache

from tests.helpers import (ODD, THROWS, Held, all_below, all_matches, close_swaps, matches, pattern_fits,
                           patterns_by_orders)
from throwshelves.intervals import (between, chain_count, greatest_below, how_many_above, how_many_below, least_above)
from throwshelves.order import covers_of, lies_below

LEVEL = (2, 2, 2, 2)


def balls_in(pattern):
    return sum(pattern) // len(pattern)


@cache
def all_above(pattern):
    return {high for high in matches(len(pattern), balls_in(pattern)) if pattern in all_below(high)}


@cache
def chains_down(one, other):
    """How many ways there are from the other one down to the one, swap by swap."""
    if one == other:
        return 1
    return sum(chains_down(one, low) for low in close_swaps(other).values() if one in all_below(low))


def sorted_set(patterns):
    return tuple(sorted(patterns))


def pairs():
    """All pairs of one to four places but every third one, and some of five."""
    chance = random.Random(95)
    for found in all_matches((1, 2, 3, 4)):
        for one in found:
            for other in found if len(found) < 20 else found[::3]:
                yield one, other
    for found in all_matches((5,)):
        for one in chance.sample(found, min(len(found), 12)):
            for other in chance.sample(found, min(len(found), 12)) + sorted(all_below(one))[:4]:
                yield one, other


class Intervals(Held, unittest.TestCase):
    def test_between(self):
        for one, other in pairs():
            wanted = sorted_set(all_above(one) & all_below(other))
            self.equal(between(one, other), wanted)
            self.assertIs(wanted == (), not lies_below(one, other))
        self.equal(between(other=LEVEL, one=THROWS), (THROWS, LEVEL))

    def test_greatest_below(self):
        for one, other in pairs():
            both = all_below(one) & all_below(other)
            wanted = [low for low in both if not any(low in all_below(high) for high in both if high != low)]
            self.equal(greatest_below(one, other), sorted_set(wanted))
            self.assertIs(wanted == [], both == set())
            if lies_below(one, other):
                self.equal(greatest_below(one=one, other=other), (one,))

    def test_least_above(self):
        for one, other in pairs():
            both = all_above(one) & all_above(other)
            wanted = [high for high in both if not any(low in all_below(high) for low in both if high != low)]
            self.equal(least_above(one, other), sorted_set(wanted))
            self.assertNotEqual(wanted, [])
            if lies_below(one, other):
                self.equal(least_above(one=one, other=other), (other,))

    def test_how_many(self):
        for size in (1, 2, 3, 4, 5):
            for pattern in patterns_by_orders(size)[::1 if size < 5 else 4]:
                self.equal(how_many_below(pattern), len(all_below(pattern)))
                self.equal(how_many_above(pattern), len(all_above(pattern)))
        self.equal([how_many_below(pattern=LEVEL), how_many_above(pattern=LEVEL)], [33, 1])

    def test_chain_count(self):
        for one, other in pairs():
            wanted = chains_down(one, other) if one in all_below(other) else 0
            self.equal(chain_count(one, other), wanted)
            if one != other:
                self.equal(sum(chain_count(one, low) for low in covers_of(other)), wanted)
        self.equal([chain_count(LEVEL, LEVEL), chain_count(other=LEVEL, one=THROWS)], [1, 1])

    def test_all_pairs_at_the_ends(self):
        for size in (2, 3, 4, 5):
            for balls in range(size + 1):
                level, low = (balls,) * size, (size,) * balls + (0,) * (size - balls)
                self.equal(between(low, level), sorted_set(all_above(low)))
                self.equal(chain_count(low, level), chains_down(low, level))

    def test_refused(self):
        for other in ODD + (list(THROWS), (1, 0), (2, 1, 3, 2), (2, 2), (1, 1, 1, 1), (0,) * 4, (2, 2, 2, True),
                            (2, 2, 2, 2, 2)):
            if not (pattern_fits(other) and len(other) == 4 and sum(other) == 8):
                for call in (between, greatest_below, least_above, chain_count):
                    self.unusable("other", call, THROWS, other)
                    self.unusable("other", call, one=THROWS, other=other)


if __name__ == "__main__":
    unittest.main()
