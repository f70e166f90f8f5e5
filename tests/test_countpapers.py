"""Papers of counts, and their checker [51], [52]."""

import random
import unittest

from tests.helpers import ODD, THROWS, Held, patterns_by_orders, some_patterns
from throwshelves.countchecker import lets_count
from throwshelves.countpapers import count_paper
from throwshelves.counts import count_polynomial

LEVEL = (2, 2, 2, 2)
ONE = ("one",)


def landing(pattern, i):
    return i + pattern[i % len(pattern)]


def come(pattern, i):
    return next(j for j in range(i - len(pattern), i + 1) if landing(pattern, j) == i)


def change(pattern, i):
    """What the pattern becomes when i and the next shelf change places: throws, be they a pattern's or not."""
    size = len(pattern)

    def name(m):
        return m + 1 if (m - i) % size == 0 else m - 1 if (m - i - 1) % size == 0 else m
    throws = [None] * size
    for m in range(size):
        throws[name(m) % size] = name(landing(pattern, m)) - name(m)
    return tuple(throws)


def changed(pattern, i):
    throws = change(pattern, i)
    return throws if all(0 <= throw <= len(pattern) for throw in throws) else None


def swap(pattern, i):
    size, throws = len(pattern), list(pattern)
    throws[i], throws[(i + 1) % size] = pattern[(i + 1) % size] + 1, pattern[i] - 1
    return tuple(throws)


def less(pattern, i):
    """The pattern without this shelf, told by where the balls land."""
    size, names = len(pattern), [place for place in range(len(pattern)) if place != i]
    throws = []
    for place in names:
        passed = [m for m in range(place + 1, landing(pattern, place) + 1) if m % size == i]
        throws.append(pattern[place] - len(passed))
    return tuple(throws)


def late(pattern, i):
    """Both things that are asked of a place in [51]."""
    return (landing(pattern, i) > landing(pattern, i + 1), come(pattern, i) > come(pattern, i + 1))


def choices(pattern):
    """All words and places that can stand at the head of a count paper, with one place for turned."""
    size = len(pattern)
    if size == 1:
        return [("one", None)]
    found = [("rest", i) for i in range(size) if pattern[i] == 0]
    found += [("full", i) for i in range(size) if pattern[i] == size]
    found += [("turned", i) for i in range(size) if late(pattern, i) in ((True, False), (False, True))]
    found += [("both", i) for i in range(size) if late(pattern, i) == (False, False) and
              {pattern[i], pattern[(i + 1) % size]}.isdisjoint({0, size})]
    return found


def some_paper(chance, pattern, turns=3):
    """A count paper of the pattern by chance, that is not the program's."""
    found = choices(pattern)
    others = [one for one in found if one[0] != "turned"]
    word, i = chance.choice(found if turns > 0 or not others else others)
    if word == "one":
        return ONE
    if word == "turned":
        places, pattern = [i], changed(pattern, i)
        while chance.random() < 0.5:
            more = [i for word, i in choices(pattern) if word == "turned"]
            if not more:
                break
            places.append(chance.choice(more))
            pattern = changed(pattern, places[-1])
        return ("turned", tuple(places), some_paper(chance, pattern, turns - 1))
    if word == "both":
        other = changed(pattern, i)
        return ("both", i, some_paper(chance, swap(pattern, i), turns),
                None if other is None else some_paper(chance, other, turns))
    return (word, i, some_paper(chance, less(pattern, i), turns))


class Papers(Held, unittest.TestCase):
    def test_papers_of_the_program(self):
        for pattern in [p for size in (1, 2, 3, 4, 5) for p in patterns_by_orders(size)]:
            paper = count_paper(pattern)
            self.equal(lets_count(pattern, paper), count_polynomial(pattern))
            self.equal(self.told(pattern, paper), list(count_polynomial(pattern)))
        self.equal(count_paper(pattern=(1,)), ONE)
        self.equal(count_paper((0,)), ONE)
        self.equal(lets_count(thing=count_paper(LEVEL), pattern=LEVEL), (1, -3, 4, -3, 1))

    def told(self, pattern, paper):
        """The polynomial of a paper, by the words of [51]; it is held that the paper stands."""
        if paper[0] == "one":
            self.equal([paper, len(pattern)], [ONE, 1])
            return [1]
        word, at, first = paper[:3]
        if word == "turned":
            self.assertTrue(type(at) is tuple and at)
            for i in at:
                self.assertIn(("turned", i), choices(pattern))
                pattern = changed(pattern, i)
            return self.told(pattern, first)
        self.assertIn((word, at), choices(pattern))
        if word != "both":
            return self.told(less(pattern, at), first)
        self.assertEqual(len(paper), 4)
        one = self.told(swap(pattern, at), first)
        other = changed(pattern, at)
        self.assertEqual(other is None, paper[3] is None)
        two = [] if other is None else self.told(other, paper[3])
        sums = [0] * (len(one) + 1)
        for k, number in enumerate(one):
            sums[k], sums[k + 1] = sums[k] - number, sums[k + 1] + number
        for k, number in enumerate(two):
            sums[k + 1] += number
        return sums

    def test_other_papers(self):
        chance = random.Random(58)
        for pattern in [p for size in (1, 2, 3, 4) for p in patterns_by_orders(size)] + some_patterns(59, (5, 6), each=20):
            for _ in range(4):
                self.equal(lets_count(pattern, some_paper(chance, pattern)), count_polynomial(pattern))

    def test_patterns_turned_stay_patterns(self):
        for pattern in [p for size in (2, 3, 4, 5) for p in patterns_by_orders(size)]:
            for word, i in choices(pattern):
                if word == "turned":
                    self.assertIsNotNone(changed(pattern, i))

    def test_six_to_eight_places(self):
        for pattern in some_patterns(60, (6, 7, 8), each=3):
            self.equal(lets_count(pattern, count_paper(pattern)), count_polynomial(pattern))

    def test_turned_at_first(self):
        # Of up to eight places these patterns, as they are turned, are all that are neither parted nor made less.
        for pattern in ((2, 4) * 3, (2, 4) * 4, (2, 6) * 4, (4, 6) * 4, (4, 2, 5, 3, 6, 4, 2, 6), (3, 4, 5, 3, 6, 4, 2, 5)):
            for k in range(len(pattern)):
                turned = pattern[k:] + pattern[:k]
                paper = count_paper(turned)
                self.assertEqual(paper[0], "turned")
                self.equal(lets_count(turned, paper), count_polynomial(pattern))
                self.equal(self.told(turned, paper), list(count_polynomial(pattern)))


class Refused(Held, unittest.TestCase):
    def test_form(self):
        for thing in ODD + ((), ("one", 0), ["one"], "one", ("rest",), ("rest", 0), ("rest", 0, ONE, 0), ("full", 0),
                            ("turned", (0,)), ("turned", (0,), ONE, ONE), ("both", 0, ONE), ("both", 0, ONE, ONE, ONE),
                            ("two",), (None,), (("one",),), (True, 0, ONE), ("", 0, ONE), ("on",)):
            self.invalid("form", (), lets_count, (1, 1), thing)
            self.invalid("form", (), lets_count, (1,), thing)
            self.invalid("form", (0,), lets_count, (0, 2), ("rest", 0, thing))
            self.invalid("form", (0,), lets_count, (1, 1), ("both", 0, thing, None))
            self.invalid("form", (0, 0), lets_count, (1, 1), ("both", 0, ("rest", 1, thing), None))

    def test_size(self):
        for pattern in ((1, 1), (0, 2), THROWS, (0, 0, 0)):
            self.invalid("size", (), lets_count, pattern, ONE)
        self.invalid("size", (0,), lets_count, (1, 1), ("both", 0, ONE, None))
        self.invalid("size", (0,), lets_count, (0, 0, 3), ("rest", 1, ONE))
        self.equal([lets_count((0,), ONE), lets_count((1,), ONE)], [(1,), (1,)])

    def test_place_of_one_shelf(self):
        for pattern in ((0,), (1,)):
            for word in ("rest", "full"):
                self.invalid("place", (), lets_count, pattern, (word, 0, ONE))
            self.invalid("place", (), lets_count, pattern, ("turned", (0,), ONE))
            self.invalid("place", (), lets_count, pattern, ("both", 0, ONE, None))

    def test_place(self):
        """All words and places at the head, for all small patterns."""
        for pattern in [p for size in (2, 3, 4) for p in patterns_by_orders(size)]:
            found = choices(pattern)
            for i in range(len(pattern)):
                for word, at in (("rest", i), ("full", i), ("turned", (i,)), ("both", i)):
                    paper = (word, at, None) if word != "both" else (word, at, None, None)
                    if (word, i) not in found:
                        self.invalid("place", (), lets_count, pattern, paper)
                    elif word == "both" and changed(pattern, i) is not None:
                        self.invalid("second", (), lets_count, pattern, paper)
                    else:
                        self.invalid("form", (0,), lets_count, pattern, paper)

    def test_turned_places(self):
        """All pairs of places: each of them is asked of the pattern that the one ahead has made."""
        for pattern in [p for size in (2, 3, 4) for p in patterns_by_orders(size)]:
            for i in range(len(pattern)):
                for j in range(len(pattern)):
                    stands = ("turned", i) in choices(pattern) and ("turned", j) in choices(changed(pattern, i))
                    self.invalid(*(("form", (0,)) if stands else ("place", ())), lets_count, pattern,
                                 ("turned", (i, j), None))

    def test_places_that_are_none(self):
        for thing in ODD + (4, -1, "0", (0,), [0]):
            if type(thing) is int and 0 <= thing < 4:
                continue
            for word in ("rest", "full"):
                self.invalid("place", (), lets_count, (0, 4, 0, 4), (word, thing, ONE))
            self.invalid("place", (), lets_count, LEVEL, ("both", thing, ONE, ONE))
            self.invalid("place", (), lets_count, LEVEL, ("turned", (thing,), ONE))
            self.invalid("place", (), lets_count, LEVEL, ("turned", thing, ONE))
        self.assertIn(("turned", 1), choices(THROWS))
        for thing in ODD + (1, [1], (), (1, None), (1, True), (1, (1,))):
            self.invalid("place", (), lets_count, THROWS, ("turned", thing, ONE))

    def test_second(self):
        self.invalid("second", (), lets_count, (1, 1), ("both", 0, ("rest", 1, ONE), ONE))
        self.invalid("second", (), lets_count, (1, 1), ("both", 0, None, 0))
        self.assertIsNotNone(changed(LEVEL, 0))
        self.invalid("second", (), lets_count, LEVEL, ("both", 0, None, None))
        self.invalid("second", (), lets_count, LEVEL, ("both", 0, count_paper(swap(LEVEL, 0)), None))

    def test_how_it_is_reached(self):
        right = ("both", 0, count_paper(swap(LEVEL, 0)), count_paper(changed(LEVEL, 0)))
        self.equal(lets_count(LEVEL, right), (1, -3, 4, -3, 1))
        self.invalid("form", (1,), lets_count, LEVEL, right[:3] + (0,))
        self.invalid("form", (0,), lets_count, LEVEL, right[:2] + (0, 0))
        self.invalid("size", (1,), lets_count, LEVEL, right[:3] + (ONE,))
        self.invalid("form", (0,), lets_count, LEVEL, right[:2] + (None, ONE))
        for pattern in (LEVEL, (3, 3, 3, 3, 3), (2, 2, 2, 2, 2), THROWS, (0, 2, 3, 5, 5)):
            self.broken(pattern, count_paper(pattern))

    def broken(self, pattern, paper):
        """Each part of a paper broken, alone and with all parts behind it: it is told how it is reached."""
        reached = list(self.parts(paper, ()))
        for k, at in enumerate(reached):
            self.invalid("form", at, lets_count, pattern, self.without(paper, [at]))
            outer = [other for other in reached[k:] if other[:len(at)] != at]
            self.invalid("form", at, lets_count, pattern, self.without(paper, [at] + outer))

    def parts(self, paper, at):
        yield at
        if paper[0] != "one":
            yield from self.parts(paper[2], at + (0,))
        if paper[0] == "both" and paper[3] is not None:
            yield from self.parts(paper[3], at + (1,))

    def without(self, paper, ways):
        if () in ways:
            return "broken"
        if not ways:
            return paper
        inner = list(paper)
        for step in (0, 1):
            below = [way[1:] for way in ways if way[0] == step]
            if below:
                inner[2 + step] = self.without(paper[2 + step], below)
        return tuple(inner)

    def test_the_first_of_two(self):
        self.invalid("place", (), lets_count, LEVEL, ("both", 4, None, None))
        self.invalid("place", (), lets_count, THROWS, ("both", 9, 0, 0))
        self.invalid("second", (), lets_count, LEVEL, ("both", 0, 0, None))
        self.invalid("form", (), lets_count, THROWS, ("both", 9, 0))


if __name__ == "__main__":
    unittest.main()
