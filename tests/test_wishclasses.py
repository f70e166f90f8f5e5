"""Wishes as objects [60], with [57], [58]."""

import inspect
import unittest

from tests.helpers import ODD, THROWS, Held, number, ring, same, size_fits, stretch_fits
from tests.test_wishes import NEXT, NO_BOUNDS, TIGHT, bounds_fit, inside, patterns, shows, small_bounds
from throwshelves import errors, wishclasses
from throwshelves.bursts import mends_burst
from throwshelves.patternclasses import Pattern
from throwshelves.wishclasses import Wish
from throwshelves.wishes import balls_let

METHODS = ("__init__", "__and__", "__getitem__", "__contains__", "__len__", "__iter__", "__eq__", "pattern", "free",
           "mended", "of_size", "bounds_now", "balls_now")
THINGS = ((0, 4), (0, 4), (0, 4), (0, 4))


def all_stretches(size):
    return [(start, length) for start in range(size) for length in range(size + 1)]


def without_throw_within(pattern, stretch):
    start, length = stretch
    return not any(k + pattern[place] < length for k, place in enumerate(ring(len(pattern), start, length)))


class Wishes(Held, unittest.TestCase):
    def test_methods_stand_in_the_class(self):
        for name in METHODS:
            self.assertIn(name, vars(Wish))
        self.assertIsInstance(inspect.getattr_static(Wish, "of_size"), classmethod)
        for name in METHODS[-2:]:
            self.assertIsInstance(inspect.getattr_static(Wish, name), property)
        self.assertEqual(Wish.__module__, wishclasses.__name__)

    def test_properties_and_items(self):
        for bounds in small_bounds()[::3]:
            one = Wish(bounds)
            self.equal([one.bounds_now, one.balls_now], [bounds, balls_let(bounds)])
            self.equal([len(one), list(one), [one[place] for place in range(len(bounds))]],
                       [len(bounds), list(bounds), list(bounds)])
            for size in (1, 2, 3):
                for pattern in patterns(size):
                    self.assertIs(pattern in one, inside(pattern, bounds))
                    self.assertIs(list(pattern) in one, False)
            for balls in range(len(bounds) + 1):
                if one.balls_now and one.balls_now[0] <= balls <= one.balls_now[1]:
                    told = one.pattern(balls)
                    self.assertTrue(told in one and sum(told) == balls * len(bounds))
                    continue
                with self.assertRaises(errors.Barred) as caught:
                    one.pattern(balls=balls)
                self.assertTrue(shows(bounds, balls, caught.exception.bar))

    def test_of_size(self):
        for size in (1, 2, 5, 12):
            self.assertIs(type(Wish.of_size(size)), Wish)
            self.equal(Wish.of_size(size).bounds_now, ((0, size),) * size)
        self.assertTrue(Wish.of_size(size=4) == Wish(bounds=THINGS))
        for thing in ODD + (0, -1):
            if not size_fits(thing):
                self.unusable("size", Wish.of_size, thing)

    def test_made_refuses(self):
        for thing in NO_BOUNDS + (Wish(NEXT),):
            if not bounds_fit(thing):
                self.unusable("bounds", Wish, thing)

    def test_equal(self):
        one = Wish(NEXT)
        self.assertIs(one == Wish(NEXT), True)
        self.assertIs(one != Wish(NEXT), False)
        for other in ODD + (NEXT, list(NEXT), Wish(TIGHT), Wish.of_size(4), Wish.of_size(1), Pattern(*THROWS)):
            self.assertIs(one == other, False)
            self.assertIs(other == one, False)
            self.assertIs(one != other, True)

    def test_what_is_in_it(self):
        one = Wish.of_size(4)
        for thing in ODD + ((1, 1, 1), (2, 1, 3, 2), (True, 1, 1, 1), [1, 1, 1, 1], (0, 0, 0, False), Pattern(1, 1, 1, 1), one):
            self.assertIs(thing in one, False)
        self.assertIs((1, 1, 1, 1) in one, True)

    def test_refused(self):
        one = Wish(NEXT)
        for thing in ODD + (4, -1, "0", (0,)):
            if type(thing) is not int or not 0 <= thing < 4:
                self.unusable("place", lambda at: one[at], thing)
            if not (number(thing) and thing <= 4):
                self.unusable("balls", one.pattern, thing)
            if not stretch_fits(4, thing):
                self.unusable("stretch", one.free, thing)
                self.unusable("stretch", one.mended, stretch=thing)
        for thing in ((4, 0), (0, 5), (0, -1), (True, 1), (0, True), [0, 1], (0, 1, 2)):
            self.unusable("stretch", one.free, stretch=thing)
            self.unusable("stretch", one.mended, thing)

    def test_iterated_twice_at_once(self):
        one = Wish(NEXT)
        self.assertEqual([(a, b) for a in one for b in one], [(a, b) for a in NEXT for b in NEXT])


class More(Held, unittest.TestCase):
    def check(self, bounds, make, stays):
        """A Wish for more: it lets just the patterns that stay, or it is barred at the first clash, and none stays."""
        one, size = Wish(bounds), len(bounds)
        right = [p for p in patterns(size) if inside(p, bounds) and stays(p)]
        try:
            other = make(one)
        except errors.Barred as error:
            self.assertEqual(right, [])
            return error.bar
        self.assertIs(type(other), Wish)
        self.assertEqual([p for p in patterns(size) if p in other], right)
        self.equal([one.bounds_now, len(other)], [bounds, size])
        return None

    def test_free(self):
        for bounds in small_bounds()[::4] + [((0, size),) * size for size in (1, 2, 3, 4)]:
            size = len(bounds)
            for start, length in all_stretches(size):
                bar = self.check(bounds, lambda one: one.free((start, length)),
                                 lambda p: without_throw_within(p, (start, length)))
                clash = [place for k, place in enumerate(ring(size, start, length)) if bounds[place][1] < length - k]
                self.equal(bar, ("clash", min(clash)) if clash else None)

    def test_mended(self):
        for bounds in small_bounds()[::4] + [((0, size),) * size for size in (1, 2, 3, 4)]:
            size = len(bounds)
            for start, length in all_stretches(size):
                bar = self.check(bounds, lambda one: one.mended((start, length)),
                                 lambda p: mends_burst(p, (start, length)))
                clash = [place for k, place in enumerate(ring(size, start, length)) if bounds[place][0] >= size - k]
                self.equal(bar, ("clash", min(clash)) if clash else None)

    def test_both(self):
        found = small_bounds()
        for bounds, other in zip(found[::3], found[1::3]):
            if len(bounds) != len(other):
                self.unusable("other", lambda one, two: one & two, Wish(bounds), Wish(other))
                continue
            bar = self.check(bounds, lambda one: one & Wish(other), lambda p: inside(p, other))
            clash = [k for k in range(len(bounds)) if max(bounds[k][0], other[k][0]) > min(bounds[k][1], other[k][1])]
            self.equal(bar, ("clash", clash[0]) if clash else None)

    def test_both_refuses(self):
        one = Wish(NEXT)
        for thing in ODD + (NEXT, Wish.of_size(3), Wish.of_size(5), Pattern(1, 1, 1, 1), errors.NotUsable("other", -1)):
            self.unusable("other", lambda other: one & other, thing)

    def test_what_is_told(self):
        one = Wish.of_size(4).free((0, 2)).mended((2, 2))
        self.equal(one.bounds_now, ((2, 4), (1, 4), (0, 3), (0, 2)))
        self.equal(Wish.of_size(4).free(stretch=(3, 2)).bounds_now, ((1, 4), (0, 4), (0, 4), (2, 4)))
        self.equal(Wish.of_size(4).mended(stretch=(3, 2)).bounds_now, ((0, 2), (0, 4), (0, 4), (0, 3)))
        self.equal(Wish.of_size(3).free((1, 0)).mended((2, 0)).bounds_now, ((0, 3),) * 3)
        self.equal(Wish.of_size(3).mended((1, 3)).bounds_now, ((0, 0), (0, 2), (0, 1)))
        self.equal(Wish.of_size(3).free((1, 3)).bounds_now, ((1, 3), (3, 3), (2, 3)))
        self.refused("Barred", {"bar": ("clash", 1)}, Wish(((0, 3), (0, 2), (0, 1))).free, (1, 3))
        self.refused("Barred", {"bar": ("clash", 0)}, Wish(((2, 3), (2, 2), (3, 3))).mended, (2, 2))
        self.refused("Barred", {"bar": ("clash", 1)}, lambda one, two: one & two, Wish(((0, 3), (0, 1), (0, 0))),
                     Wish(((0, 3), (2, 3), (1, 3))))
        self.assertTrue(same(Wish(NEXT).balls_now, (0, 1)))


if __name__ == "__main__":
    unittest.main()
