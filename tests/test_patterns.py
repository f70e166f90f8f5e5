"""Patterns and their balls [6], [23], [24], [25]."""

import unittest
from itertools import product

from tests.helpers import ODD, THROWS, Held, number, patterns_by_orders, some_patterns
from throwshelves.errors import InvalidPaper
from throwshelves.patterns import (ball_paths, balls_of, crossing, is_throws, landings_of, lands_at, lets_pattern,
                                   rounds_of, states_of, thrown_from)


def many_patterns():
    return [p for size in (1, 2, 3, 4, 5) for p in patterns_by_orders(size)] + some_patterns(14, (6, 9, 12, 20))


def crossing_by_flight(pattern, place):
    """The crossing, by all balls thrown in the last rounds ahead of the place, one landing after another."""
    size, told = len(pattern), set()
    for i in range(place - 3 * size, place):
        landing = i + pattern[i % size]
        if landing >= place:
            told.add(landing - place)
    return tuple(sorted(told))


class Checker(Held, unittest.TestCase):
    def test_all_small_tuples(self):
        for size in (1, 2, 3, 4):
            patterns = set(patterns_by_orders(size))
            for throws in product(range(size + 2), repeat=size):
                self.assertIs(is_throws(throws), throws in patterns)
                if throws in patterns:
                    self.equal(lets_pattern(throws), sum(throws) // size)
                else:
                    with self.assertRaises(InvalidPaper):
                        lets_pattern(throws)

    def test_great_patterns(self):
        for pattern in many_patterns():
            self.assertIs(is_throws(pattern), True)
            self.equal(lets_pattern(pattern), balls_of(pattern))
        great = (5000,) * 5000
        self.assertIs(is_throws(great), True)
        self.equal(lets_pattern(great), 5000)
        self.equal(lets_pattern(thing=(0,)), 0)
        self.assertIs(is_throws(thing=(1,)), True)

    def test_shape(self):
        for thing in ((), [], [1, 1], None, 0, 1, True, "11", "", (2, 4, ()).__class__):
            self.assertIs(is_throws(thing), False)
            self.invalid("shape", -1, lets_pattern, thing)

    def test_throw(self):
        for throw in (None, True, False, -1, 4, "1", (1,), [1], 10 ** 59, -10 ** 59):
            self.assertIs(is_throws((1, throw, 1)), False)
            self.invalid("throw", 1, lets_pattern, (1, throw, 1))
            self.invalid("throw", 0, lets_pattern, (throw, throw, 1))
        self.invalid("throw", 0, lets_pattern, (True,))
        self.invalid("throw", 0, lets_pattern, (2,))

    def test_clash(self):
        self.invalid("clash", (0, 1), lets_pattern, (1, 0))
        self.invalid("clash", (0, 1), lets_pattern, (2, 1, 3, 2))
        self.invalid("clash", (1, 2), lets_pattern, (3, 1, 0, 0))
        self.invalid("clash", (0, 3), lets_pattern, (3, 0, 0, 0))
        self.invalid("clash", (0, 2), lets_pattern, (0, 0, 1))

    def test_clash_is_the_least(self):
        for size in (2, 3, 4, 5):
            for throws in product(range(size + 1), repeat=size):
                clashes = [(j, i) for j in range(size) for i in range(j) if (i + throws[i] - j - throws[j]) % size == 0]
                if clashes:
                    j, i = min(clashes)
                    self.invalid("clash", (i, j), lets_pattern, throws)

    def test_what_comes_first(self):
        # All throws are gone through ahead of the clash, which is one of throws that stand.
        self.invalid("throw", 2, lets_pattern, (1, 0, 4))
        self.invalid("throw", 3, lets_pattern, (2, 1, 3, True))
        self.invalid("throw", 0, lets_pattern, (5, 1, 0, 0))

    def test_any_values(self):
        for thing in ODD:
            fits = type(thing) is tuple and len(thing) > 0 and all(number(throw) and throw <= len(thing) for throw in thing)
            fits = fits and len({(i + throw) % len(thing) for i, throw in enumerate(thing)}) == len(thing)
            self.assertIs(is_throws(thing), fits, thing)


class Balls(Held, unittest.TestCase):
    def test_balls_and_landings(self):
        for pattern in many_patterns():
            size = len(pattern)
            self.assertEqual(balls_of(pattern) * size, sum(pattern))
            self.equal(landings_of(pattern), tuple(i + throw for i, throw in enumerate(pattern)))
            self.assertEqual(sorted(lands_at(pattern, place) for place in range(size)), list(range(size)))
            for place in range(size):
                self.equal(lands_at(pattern, place), (place + pattern[place]) % size)
                source, throw = thrown_from(pattern, place)
                self.assertIs(type(thrown_from(pattern, place)), tuple)
                self.assertEqual((pattern[source], lands_at(pattern, source)), (throw, place))

    def test_states(self):
        for pattern in many_patterns():
            size, states = len(pattern), states_of(pattern)
            self.assertEqual((type(states), len(states)), (tuple, size))
            for place in range(size):
                self.equal(states[place], crossing_by_flight(pattern, place))
                self.equal(crossing(pattern, place), states[place])
                self.assertEqual(len(states[place]), balls_of(pattern))
                self.assertTrue(all(0 <= t < size for t in states[place]))

    def test_the_next_state(self):
        for pattern in many_patterns():
            size, states = len(pattern), states_of(pattern)
            for place in range(size):
                later = {t - 1 for t in states[place] if t > 0}
                self.assertIs(pattern[place] == 0, 0 not in states[place])
                if pattern[place] > 0:
                    later.add(pattern[place] - 1)
                self.assertEqual(states[(place + 1) % size], tuple(sorted(later)))

    def test_rounds(self):
        for pattern in many_patterns():
            rounds, paths = rounds_of(pattern), ball_paths(pattern)
            self.equal(rounds, tuple(sorted(rounds)))
            self.assertEqual(sorted(place for places in rounds for place in places), list(range(len(pattern))))
            for places in rounds:
                self.assertEqual(places[0], min(places))
                for here, there in zip(places, places[1:] + places[:1]):
                    self.assertEqual(lands_at(pattern, here), there)
                self.assertIs(len(places) == 1, pattern[places[0]] in (0, len(pattern)))
            wanted = tuple((places, sum(pattern[place] for place in places) // len(pattern)) for places in rounds)
            self.equal(paths, wanted)
            self.assertEqual(sum(balls for _, balls in paths), balls_of(pattern))

    def test_one_place(self):
        self.equal([balls_of((0,)), landings_of((0,)), lands_at((0,), 0), thrown_from((0,), 0)], [0, (0,), 0, (0, 0)])
        self.equal([balls_of((1,)), landings_of((1,)), lands_at((1,), 0), thrown_from((1,), 0)], [1, (1,), 0, (0, 1)])
        self.equal([states_of((0,)), states_of((1,)), crossing((1,), 0)], [((),), ((0,),), (0,)])
        self.equal([rounds_of((1,)), ball_paths((0,)), ball_paths((1,))], [((0,),), (((0,), 0),), (((0,), 1),)])

    def test_places_are_refused(self):
        for call in (lands_at, thrown_from, crossing):
            for place in (4, -1, True, None, "0", (0,), [0]):
                self.unusable("place", call, THROWS, place)
            self.unusable("place", call, (1,), 1)


if __name__ == "__main__":
    unittest.main()
