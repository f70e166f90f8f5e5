"""What lies between two patterns as an object [82], with [76], [78]."""

import inspect
import random
import unittest

from tests.helpers import (ODD, THROWS, Held, all_below, all_matches, close_swaps, number, pattern_fits)
from throwshelves import orderclasses
from throwshelves.intervals import between
from throwshelves.orderclasses import Interval
from throwshelves.patternclasses import Pattern
from throwshelves.swaps import depth_of

LEVEL = (2, 2, 2, 2)
LOW = (4, 2, 0, 2)
METHODS = ("__init__", "__getitem__", "__call__", "__and__", "__contains__", "__len__", "__iter__", "__eq__", "part",
           "low_now", "high_now", "height_now")


def ends():
    """Pairs of which the first one lies below the second one: all of one to three places, and some."""
    chance = random.Random(97)
    for found in all_matches((1, 2, 3)):
        for other in found:
            for one in sorted(all_below(other)):
                yield one, other
    for found in all_matches((4, 5)):
        for other in chance.sample(found, min(len(found), 10)):
            yield chance.choice(sorted(all_below(other))), other


class Intervals(Held, unittest.TestCase):
    def test_methods_stand_in_the_class(self):
        for name in METHODS:
            self.assertIn(name, vars(Interval))
        for name in METHODS[-3:]:
            self.assertIsInstance(inspect.getattr_static(Interval, name), property)
        self.assertEqual(Interval.__module__, orderclasses.__name__)

    def test_properties_and_items(self):
        for one, other in ends():
            it, found = Interval(one, other), between(one, other)
            self.equal([it.low_now, it.high_now, it.height_now], [one, other, depth_of(one) - depth_of(other)])
            self.equal([len(it), list(it)], [len(found), list(found)])
            for pattern in found:
                self.assertIs(pattern in it, True)
                lower = {low for low in close_swaps(pattern).values() if low in found}
                upper = {high for high in found if pattern in close_swaps(high).values()}
                self.equal(it[pattern], (tuple(sorted(lower)), tuple(sorted(upper))))
            for steps in range(it.height_now + 3):
                wanted = tuple(p for p in found if depth_of(p) == depth_of(other) + steps)
                self.equal(it(steps), wanted)
                self.equal(it(steps=steps), wanted)
            self.equal(it(10 ** 59), ())

    def test_what_is_in_it(self):
        it = Interval(one=LOW, other=LEVEL)
        self.assertIs(THROWS in it, False)
        for thing in ODD + (list(LEVEL), Pattern(*LEVEL), it, (4, True, 1, 2), (4, 2, False, 2), (2, 2, 2), (1,) * 4):
            self.assertIs(thing in it, False)
        low = Interval((3, 0, 0), (1, 1, 1))
        self.assertIs((1, 1, True) in low, False)
        self.assertIs((3, 0, False) in low, False)
        self.assertIs((1, 1, 1) in low, True)

    def test_iterated_twice_at_once(self):
        it = Interval(LOW, LEVEL)
        found = list(it)
        self.assertEqual([(a, b) for a in it for b in it], [(a, b) for a in found for b in found])

    def test_both(self):
        made = [Interval(one, other) for one, other in list(ends())[::7]]
        for it in made:
            for late in made:
                both = it & late
                self.equal(both, tuple(p for p in list(it) if p in list(late)))
        it = Interval(LOW, LEVEL)
        for thing in ODD + (LEVEL, (LOW, LEVEL), Pattern(*LEVEL)):
            self.unusable("late", lambda late: it & late, thing)

    def test_part(self):
        it = Interval(LOW, LEVEL)
        for low in it:
            for high in it:
                if low in all_below(high):
                    part = it.part(low, high)
                    self.assertIs(type(part), Interval)
                    self.assertTrue(part == Interval(low, high) and it.part(high=high, low=low) == part)
                    self.assertLessEqual(set(part), set(it))
                else:
                    self.unusable("high", it.part, low, high)
        for thing in ODD + (THROWS, list(LOW), (1, 1, 1, 1), (2, 2, 2, True), Pattern(*LOW), (2, 2), it):
            self.unusable("low", it.part, thing, LEVEL)
            self.unusable("low", it.part, thing, None)
            self.unusable("high", it.part, LOW, thing)
        self.unusable("high", it.part, LEVEL, LOW)

    def test_equal(self):
        it = Interval(LOW, LEVEL)
        self.assertIs(it == Interval(LOW, LEVEL), True)
        self.assertIs(it != Interval(LOW, LEVEL), False)
        for other in ODD + (list(it), (LOW, LEVEL), Interval(LEVEL, LEVEL), Interval(LOW, LOW), Interval((1,), (1,)),
                            Interval(THROWS, LEVEL), Interval(LOW, (3, 1, 2, 2)), Pattern(*LEVEL)):
            self.assertIs(it == other, False)
            self.assertIs(other == it, False)
            self.assertIs(it != other, True)

    def test_made_refuses(self):
        for thing in ODD + ((1, 0), list(LOW), (2, 1, 3, 2), Pattern(*LOW), (2, 2, 2, True), (5, 0, 0, 0)):
            if not pattern_fits(thing):
                self.unusable("one", Interval, thing, LEVEL)
                self.unusable("one", Interval, one=thing, other=None)
                self.unusable("other", Interval, LOW, thing)
        for other in (THROWS, (1, 1, 1, 1), (2, 2, 2), (2,) * 5, (0, 4, 0, 4), (0,)):
            self.unusable("other", Interval, LOW, other)
            self.unusable("other", Interval, other=other, one=LOW)
        self.unusable("other", Interval, LEVEL, LOW)

    def test_items_refuse(self):
        it = Interval(LOW, LEVEL)
        for thing in ODD + (THROWS, list(LOW), 0, 1, -1, (4, 2, False, 2), Pattern(*LOW)):
            self.unusable("pattern", lambda at: it[at], thing)
            if not number(thing):
                self.unusable("steps", it, thing)
                self.unusable("steps", it, steps=thing)


if __name__ == "__main__":
    unittest.main()
