"""Patterns as objects [31], [32]."""

import inspect
import unittest

from tests.helpers import ODD, THROWS, TWINS, Held, number, patterns_by_orders, size_fits, some_patterns
from throwshelves import patternclasses, patterns, swaps
from throwshelves.bookclasses import Book
from throwshelves.patternclasses import Level, Pattern
from throwshelves.patternlines import pattern_line

METHODS = ("__init__", "__getitem__", "__call__", "__len__", "__iter__", "__eq__", "__str__", "swapped_at", "read",
           "throws_now", "balls_now", "depth_now", "states_now")


def objects():
    """Pairs of an object and its throws."""
    found = [(Pattern(*p), p) for size in (1, 2, 3, 4) for p in patterns_by_orders(size)]
    found += [(Pattern(*p), p) for p in some_patterns(17, (6, 12), each=3)]
    return found + [(Level(size, balls), (balls,) * size) for size in (1, 2, 3, 12) for balls in range(size + 1)]


class Patterns(Held, unittest.TestCase):
    def test_methods_stand_in_both_classes(self):
        for kind in (Pattern, Level):
            for name in METHODS:
                self.assertIn(name, vars(kind))
            self.assertIsInstance(inspect.getattr_static(kind, "read"), classmethod)
            for name in METHODS[-4:]:
                self.assertIsInstance(inspect.getattr_static(kind, name), property)
            self.assertEqual(kind.__module__, patternclasses.__name__)
        self.assertEqual(Level.__bases__, (Pattern,))

    def test_properties_and_items(self):
        for one, throws in objects():
            self.equal(one.throws_now, throws)
            self.equal(one.balls_now, patterns.balls_of(throws))
            self.equal(one.depth_now, swaps.depth_of(throws))
            self.equal(one.states_now, patterns.states_of(throws))
            self.equal([len(one), list(one), str(one)], [len(throws), list(throws), pattern_line(throws)])
            for place in range(len(throws)):
                self.equal([one[place], one(place), one(place=place)],
                           [throws[place]] + [patterns.lands_at(throws, place)] * 2)

    def test_swapped_at(self):
        for one, throws in objects():
            for i, j in swaps.lowering_swaps(throws) + swaps.raising_swaps(throws):
                other = one.swapped_at(i, j)
                self.assertIs(type(other), Pattern)
                self.equal(other.throws_now, swaps.swapped(throws, i, j))
                self.assertTrue(one.swapped_at(j=j, i=i).swapped_at(i, j) == one)
                self.equal(one.throws_now, throws)

    def test_swapped_at_refuses(self):
        for one in (Pattern(0, 4, 4, 0), Level(4, 2)):
            for thing in ODD + (4, -1):
                if not (number(thing) and thing < 4):
                    self.unusable("i", one.swapped_at, thing, None)
                if not (number(thing) and 0 < thing < 4):
                    self.unusable("j", one.swapped_at, 0, thing)
        self.unusable("j", Pattern(0, 2).swapped_at, 0, 1)
        self.unusable("j", Level(2, 2).swapped_at, 0, 1)
        self.unusable("j", Level(1, 1).swapped_at, 0, 1)

    def test_items_refuse(self):
        for one in (Pattern(*THROWS), Level(4, 3)):
            for thing in ODD + (4, -1, "0", one):
                if not (number(thing) and thing < 4):
                    self.unusable("place", lambda at: one[at], thing)
                    self.unusable("place", one, thing)

    def test_equal(self):
        self.assertIs(Level(2, 1) == Pattern(1, 1), True)
        self.assertIs(Pattern(1, 1) == Level(2, 1), True)
        self.assertIs(Level(2, 1) == Level(2, 1), True)
        self.assertIs(Pattern(1, 1) != Level(2, 1), False)
        for one in (Pattern(2, 2), Level(2, 2)):
            for other in ODD + ((2, 2), [2, 2], Pattern(1, 1), Pattern(2, 0), Level(2, 1), Level(1, 1), Book.of(TWINS)):
                self.assertIs(one == other, False)
                self.assertIs(other == one, False)
                self.assertIs(one != other, True)

    def test_made_refuses(self):
        for throws in ((), (True,), (2,), (-1,), (1, 0), (0, 3), (THROWS,), (None,), ("1",), ([1],), (0, False), (1.0 == 1,)):
            self.unusable("throws", Pattern, *throws)
        for thing in ODD:
            if not (number(thing) and thing <= 1):
                self.unusable("throws", Pattern, thing)
            if not size_fits(thing):
                self.unusable("size", Level, thing, None)
            if not (number(thing) and thing <= 3):
                self.unusable("balls", Level, 3, thing)
        self.unusable("balls", Level, balls=4, size=3)

    def test_level_by_name(self):
        self.equal(Level(balls=1, size=3).throws_now, (1, 1, 1))

    def test_read(self):
        for one, throws in objects():
            self.assertTrue(Pattern.read(str(one)) == one)
            for kind in (Pattern, Level, one):
                other = kind.read(text=pattern_line(throws))
                self.assertIs(type(other), Pattern)
                self.equal(other.throws_now, throws)
        for line in ("throws 1 2 2 3", "throws 0", "throws 2 2"):
            self.equal(str(Pattern.read(line)), line)
        for kind in (Pattern, Level):
            self.unusable("text", kind.read, 5)
            self.refused("InvalidText", {"line": 0, "field": 2}, kind.read, "throws 2 1 3 2")
            self.refused("InvalidText", {"line": 0, "field": 1}, kind.read, "throws")


if __name__ == "__main__":
    unittest.main()
