"""Wishes for throws within bounds, with papers and their checker [58], [59]."""

import random
import unittest
from functools import cache
from itertools import product

from tests.helpers import ODD, PRIMES, THROWS, Held, fields_of, number, patterns_by_orders, prime_fits, some_patterns
from throwshelves.bookpatterns import pattern_of
from throwshelves.errors import Barred
from throwshelves.wishchecker import lets_wish
from throwshelves.wishes import balls_let, book_within, is_within, pattern_within
from throwshelves.wishpapers import wish_paper

NEXT = ((0, 3), (0, 1), (0, 2), (0, 1))
TIGHT = ((2, 2), (1, 1), (0, 4), (0, 4))
NO_BOUNDS = ODD + (((0, 1), (1, 0)), ((0, 2),), ((-1, 1),), ((True, 1),), ((0, True),), ((0, 1, 1),), ((0,),), [(0, 1)],
                   ([0, 1],), ((0, 1), None), ((0, 3), (0, 1)), ((0, "1"),), ((0, 1), (0, 1), (0, 4)), ((1, 0),))


def bounds_fit(thing):
    if type(thing) is not tuple or thing == ():
        return False
    return all(type(pair) is tuple and len(pair) == 2 and number(pair[0]) and number(pair[1]) and
               pair[0] <= pair[1] <= len(thing) for pair in thing)


@cache
def patterns(size):
    return patterns_by_orders(size)


def inside(pattern, bounds):
    return len(pattern) == len(bounds) and all(low <= throw <= high for throw, (low, high) in zip(pattern, bounds))


def some_bounds(seed, sizes, each):
    """Bounds by chance: wide ones, narrow ones, and such as let a pattern."""
    chance, found = random.Random(seed), []
    for size in sizes:
        for k in range(each):
            low = [chance.randint(0, size) for _ in range(size)]
            if k % 3 == 0:
                low = list(some_patterns(chance.random(), (size,), each=1)[0])
            wide = chance.choice((0, 1, 2, size))
            found.append(tuple((max(0, least - chance.randint(0, wide)), min(size, least + chance.randint(0, wide)))
                               for least in low))
    return found


def small_bounds():
    """All bounds of one and two places, and many of three to five."""
    pairs = {size: [(low, high) for low in range(size + 1) for high in range(low, size + 1)] for size in (1, 2)}
    found = [bounds for size in (1, 2) for bounds in product(pairs[size], repeat=size)]
    return found + some_bounds(67, (3, 4, 5), 150) + [NEXT, TIGHT]


def landings(bounds, i):
    """The places at which the ball of i may land."""
    return {(i + throw) % len(bounds) for throw in range(bounds[i][0], bounds[i][1] + 1)}


def over(bounds, gap, which):
    """How many places reach over the gap ahead of a place, by their least (0) or their most (1)."""
    size = len(bounds)
    return len([a for a in range(size) if any((a + k) % size == gap for k in range(1, bounds[a][which] + 1))])


def shows(bounds, balls, bar):
    """Whether a bar is so, by the words of [59]."""
    word, size = bar[0], len(bounds)
    if word == "few":
        return over(bounds, bar[1], 1) < balls
    if word == "many":
        return over(bounds, bar[1], 0) > balls
    start, length = bar[1:]
    places = {(start + k) % size for k in range(length)}
    return length < size and len([i for i in range(size) if landings(bounds, i) <= places]) > length


class Wishes(Held, unittest.TestCase):
    def test_against_all_patterns(self):
        for bounds in small_bounds():
            size, right = len(bounds), [p for p in patterns(len(bounds)) if inside(p, bounds)]
            balls = sorted({sum(p) // size for p in right})
            self.equal(balls_let(bounds), (balls[0], balls[-1]) if balls else None)
            if balls:
                self.assertEqual(balls, list(range(balls[0], balls[-1] + 1)))
            for many in range(size + 1):
                if many in balls:
                    self.assertIn(pattern_within(bounds, many), [p for p in right if sum(p) == many * size])
                    self.throws_told(bounds, many)
                else:
                    self.barred(bounds, many)

    def throws_told(self, bounds, balls):
        paper = wish_paper(bounds, balls)
        self.assertEqual((type(paper), len(paper), paper[0]), (tuple, 2, "throws"))
        self.assertTrue(inside(paper[1], bounds) and sum(paper[1]) == balls * len(bounds))
        self.assertIs(lets_wish(bounds, balls, paper), True)

    def barred(self, bounds, balls):
        for call, args in ((pattern_within, ()), (book_within, (3,))):
            with self.assertRaises(Barred) as caught:
                call(bounds, balls, *args)
            bar = caught.exception.bar
            self.assertEqual(fields_of(caught.exception), ("Barred", {"bar": bar}))
            self.assertIs(type(bar), tuple)
            self.assertTrue(shows(bounds, balls, bar))
            self.assertIs(lets_wish(bounds, balls, bar), False)
        paper = wish_paper(bounds, balls)
        self.assertTrue(shows(bounds, balls, paper))
        self.assertIs(lets_wish(bounds, balls, paper), False)

    def test_books(self):
        for bounds in small_bounds()[::7] + some_bounds(68, (6,), 30):
            told = balls_let(bounds)
            for prime in PRIMES if told else ():
                for balls in range(told[0], told[1] + 1):
                    book = book_within(bounds, balls, prime)
                    self.assertEqual((book[:2], len(book[2])), ((prime, len(bounds)), balls))
                    self.assertTrue(inside(pattern_of(book), bounds))

    def test_up_to_twelve_places(self):
        for bounds in some_bounds(69, (6, 9, 12), 30):
            told = balls_let(bounds)
            for balls in range(len(bounds) + 1):
                if told and told[0] <= balls <= told[1]:
                    self.throws_told(bounds, balls)
                else:
                    self.barred(bounds, balls)

    def test_is_within(self):
        for bounds in small_bounds()[::5]:
            for size in (1, 2, 3, 4):
                for pattern in patterns(size):
                    self.assertIs(is_within(pattern, bounds), inside(pattern, bounds))
        self.assertIs(is_within(bounds=NEXT, pattern=THROWS), False)
        self.assertIs(is_within((0,), ((0, 2), (0, 2))), False)

    def test_all_throws_let(self):
        for size in (1, 2, 3, 6, 12):
            whole = ((0, size),) * size
            self.equal(balls_let(bounds=whole), (0, size))
            for balls in (0, 1, size):
                self.equal(sum(pattern_within(balls=balls, bounds=whole)), balls * size)
        self.equal([balls_let(((0, 0),)), balls_let(((1, 1),)), balls_let(((0, 1),))], [(0, 0), (1, 1), (0, 1)])

    def test_refused(self):
        calls = (pattern_within, wish_paper, lambda bounds, balls: book_within(bounds, balls, None),
                 lambda bounds, balls: lets_wish(bounds, balls, None))
        for thing in NO_BOUNDS:
            if bounds_fit(thing):
                continue
            self.unusable("bounds", balls_let, thing)
            self.unusable("bounds", is_within, THROWS, thing)
            for call in calls:
                self.unusable("bounds", call, thing, None)
        for thing in ODD + (5, -1, "2"):
            if not (number(thing) and thing <= 4):
                for call in calls:
                    self.unusable("balls", call, NEXT, thing)
        for thing in ODD + (4, 17):
            if not prime_fits(thing):
                self.unusable("prime", book_within, NEXT, 2, thing)


class Checker(Held, unittest.TestCase):
    def test_all_bars(self):
        """Each gap and each stretch, told as a bar: it is accepted exactly if it is so."""
        for bounds in small_bounds():
            size = len(bounds)
            for balls in range(size + 1):
                for gap in range(size):
                    for word in ("few", "many"):
                        self.judge(bounds, balls, (word, gap), "gap")
                for start in range(size):
                    for length in range(size + 1):
                        self.judge(bounds, balls, ("crowd", start, length), "stretch")

    def judge(self, bounds, balls, bar, word):
        if shows(bounds, balls, bar):
            self.assertIs(lets_wish(bounds, balls, bar), False)
            right = [p for p in patterns(len(bounds)) if inside(p, bounds) and sum(p) == balls * len(bounds)]
            self.assertEqual(right, [])
        else:
            self.invalid(word, -1, lets_wish, bounds, balls, bar)

    def test_all_patterns(self):
        for bounds in small_bounds()[::4]:
            size = len(bounds)
            for pattern in patterns(size):
                beside = [k for k in range(size) if not bounds[k][0] <= pattern[k] <= bounds[k][1]]
                for balls in range(size + 1):
                    if sum(pattern) != balls * size:
                        self.invalid("pattern", -1, lets_wish, bounds, balls, ("throws", pattern))
                    elif beside:
                        self.invalid("throw", beside[0], lets_wish, bounds, balls, ("throws", pattern))
                    else:
                        self.assertIs(lets_wish(bounds, balls, ("throws", pattern)), True)

    def test_shape(self):
        for thing in ODD + (("throws",), ("throws", THROWS, 0), ["throws", THROWS], ("few",), ("few", 1, 1), ("many", 0, 4),
                            ("crowd", 2), ("crowd", (2, 1)), ("crowd", 2, 1, 1), "few", ("none", 1), (None, 1),
                            (("few",), 1), (True, 1), ("", 1)):
            self.invalid("shape", -1, lets_wish, NEXT, 2, thing)
            self.invalid("shape", -1, lets_wish, thing=thing, balls=2, bounds=NEXT)

    def test_pattern(self):
        for thing in ODD + ((1, 1, 1), (2, 1, 3, 2), [1, 1, 1, 1], (True, 1, 1, 1), (2, 2, 2, 2), (1, 1, 1, 1, 1), (1, 1, 1, 5)):
            self.invalid("pattern", -1, lets_wish, NEXT, 1, ("throws", thing))
        self.assertIs(lets_wish(NEXT, 1, ("throws", (1, 1, 1, 1))), True)
        self.invalid("throw", 1, lets_wish, NEXT, 1, ("throws", (0, 2, 0, 2)))
        self.invalid("throw", 0, lets_wish, NEXT, 1, ("throws", (4, 0, 0, 0)))

    def test_gap_and_stretch(self):
        for thing in ODD + (4, -1, "1", (1,)):
            if type(thing) is not int or not 0 <= thing < 4:
                self.invalid("gap", -1, lets_wish, NEXT, 4, ("few", thing))
                self.invalid("gap", -1, lets_wish, ((4, 4),) * 4, 0, ("many", thing))
                self.invalid("stretch", -1, lets_wish, TIGHT, 2, ("crowd", thing, 1))
            if type(thing) is not int or thing != 1:
                self.invalid("stretch", -1, lets_wish, TIGHT, 2, ("crowd", 2, thing))
        # The stretch of all places, and none, and one of which just as many places have all landings.
        whole = ((0, 0),) * 4
        for start, length in ((0, 4), (1, 4), (0, 0), (0, 1), (1, 2), (3, 3), (0, 5)):
            self.invalid("stretch", -1, lets_wish, whole, 0, ("crowd", start, length))


if __name__ == "__main__":
    unittest.main()
