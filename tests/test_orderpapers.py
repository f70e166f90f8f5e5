"""Papers of the order, and their checker [81], with [73]."""

import unittest

from tests.helpers import (ODD, THROWS, Held, all_below, all_matches, integer, pattern_fits, place_fits, rank_by_throws,
                           stretch_fits, swaps_down)
from tests.test_order import far_pairs, first_greater, pairs_of_matches
from throwshelves.orderpapers import lets_below, order_paper

LEVEL = (2, 2, 2, 2)
LOW = (4, 2, 0, 2)


def pair_fits(size, thing):
    if type(thing) is not tuple or len(thing) != 2:
        return False
    return place_fits(size, thing[0]) and integer(thing[1]) and thing[0] < thing[1] < thing[0] + size


class Papers(Held, unittest.TestCase):
    def check(self, one, other, below):
        paper = order_paper(one, other)
        self.assertTrue(type(paper) is tuple and len(paper) == 2 and type(paper[0]) is str)
        self.assertIs(lets_below(one, other, paper), below)
        if not below:
            self.assertGreater(rank_by_throws(one, *paper[1]), rank_by_throws(other, *paper[1]))
            return
        pattern = other
        for pair in paper[1]:
            pattern = swaps_down(pattern)[pair]
        self.equal([paper[0], pattern], ["swaps", one])

    def test_all_pairs(self):
        for one, other in pairs_of_matches():
            self.check(one, other, one in all_below(other))

    def test_greater_ones(self):
        for one, other in far_pairs(96, (6, 9, 12), 5):
            self.check(one, other, True)
            self.check(other, one, one == other)

    def test_by_name(self):
        self.equal(order_paper(other=THROWS, one=THROWS), ("swaps", ()))
        self.equal(order_paper(one=LEVEL, other=THROWS)[0], "stretch")


class Checker(Held, unittest.TestCase):
    def test_all_short_swaps(self):
        for found in all_matches((2, 3)):
            for other in found:
                size = len(other)
                pairs = [(i, j) for i in range(size) for j in range(i + 1, i + size)]
                for first in pairs:
                    middle = swaps_down(other).get(first)
                    if middle is None:
                        self.invalid("swap", 0, lets_below, other, other, ("swaps", (first, None)))
                        continue
                    self.assertIs(lets_below(middle, other, ("swaps", (first,))), True)
                    self.invalid("end", -1, lets_below, other, other, ("swaps", (first,)))
                    for second in pairs:
                        last = swaps_down(middle).get(second)
                        if last is None:
                            self.invalid("swap", 1, lets_below, middle, other, ("swaps", (first, second)))
                        else:
                            self.assertIs(lets_below(last, other, ("swaps", (first, second))), True)
                            self.invalid("end", -1, lets_below, middle, other, ("swaps", (first, second)))

    def test_swaps_that_go_deeper(self):
        self.assertIs(lets_below(thing=("swaps", ((0, 2),)), other=LEVEL, one=LOW), True)
        self.assertIs(lets_below(THROWS, THROWS, ("swaps", ())), True)
        self.invalid("end", -1, lets_below, THROWS, LEVEL, ("swaps", ()))
        # A swap that there is, but no lowering one; none that there is; and what would come back behind it.
        self.invalid("swap", 0, lets_below, LEVEL, THROWS, ("swaps", ((3, 4),)))
        self.invalid("swap", 0, lets_below, THROWS, LOW, ("swaps", ((0, 3),)))
        self.invalid("swap", 1, lets_below, LEVEL, LEVEL, ("swaps", ((3, 4), (3, 4))))

    def test_all_stretches(self):
        for one, other in ((LEVEL, THROWS), (THROWS, LEVEL), (LOW, THROWS), ((0, 4, 4, 0), (4, 0, 0, 4))):
            for start in range(4):
                for length in range(5):
                    paper = ("stretch", (start, length))
                    if rank_by_throws(one, start, length) > rank_by_throws(other, start, length):
                        self.assertIs(lets_below(one, other, paper), False)
                    else:
                        self.invalid("rank", -1, lets_below, one, other, paper)
        self.assertIs(lets_below(LEVEL, THROWS, ("stretch", first_greater(LEVEL, THROWS))), False)

    def test_shape(self):
        for thing in ODD + (("swaps",), ("swaps", [(3, 4)]), ["swaps", ((3, 4),)], ("swaps", ((3, 4),), 0), ("swaps", None),
                            ("swaps", 0), ("Swaps", ()), ("stretch",), ("stretch", 0, 2), (["stretch"], (0, 2)),
                            ("rank", (0, 2)), ("swaps", "")):
            self.invalid("shape", -1, lets_below, THROWS, LEVEL, thing)

    def test_pairs(self):
        for thing in ODD + ((4, 5), (-1, 0), (0, 0), (0, 4), (1, 0), (1, 5), (0, 1, 2), [0, 1], (True, 2), (0, True), (0,),
                            ("0", 1), (3, 10 ** 59), (0, None), ((0,), 1)):
            if pair_fits(4, thing):
                continue
            self.invalid("pair", 0, lets_below, THROWS, LEVEL, ("swaps", (thing,)))
            self.invalid("pair", 1, lets_below, THROWS, LEVEL, ("swaps", ((3, 4), thing, (9, 9))))

    def test_each_element_by_itself(self):
        # All checks of one element come before those of the next one.
        self.invalid("swap", 0, lets_below, THROWS, THROWS, ("swaps", ((3, 4), None)))
        self.invalid("pair", 0, lets_below, THROWS, THROWS, ("swaps", (None, (3, 4))))
        self.invalid("swap", 1, lets_below, THROWS, LEVEL, ("swaps", ((3, 4), (3, 4), None)))
        self.invalid("pair", 2, lets_below, THROWS, LEVEL, ("swaps", ((3, 4), (0, 1), ())))

    def test_stretches(self):
        for thing in ODD + ((4, 0), (0, 5), (0, -1), (True, 1), (0, True), [0, 2], (0, 2, 2), (0,)):
            if not stretch_fits(4, thing):
                self.invalid("stretch", -1, lets_below, LEVEL, THROWS, ("stretch", thing))

    def test_long_ones(self):
        size = 12
        one, other = (size,) * 6 + (0,) * 6, (6,) * size
        paper = order_paper(one, other)
        self.assertIs(lets_below(one, other, paper), True)
        self.invalid("swap", len(paper[1]), lets_below, one, other, ("swaps", paper[1] + ((0, 1),)))

    def test_other_comes_first(self):
        for other in ODD + (list(THROWS), (1, 1, 1, 1), (2, 2), (2, 1, 3, 2), (2, 2, 2, True)):
            if not (pattern_fits(other) and len(other) == 4 and sum(other) == 8):
                self.unusable("other", order_paper, THROWS, other)
                self.unusable("other", order_paper, one=THROWS, other=other)
                for thing in (None, ("swaps", ()), ("stretch", None)):
                    self.unusable("other", lets_below, THROWS, other, thing)


if __name__ == "__main__":
    unittest.main()
