"""Caps of ranks, with papers and their checker [61], [62]."""

import random
import unittest
from functools import cache
from itertools import combinations, product

from tests.helpers import (ODD, PRIMES, THROWS, Held, number, patterns_by_orders, places_fit, prime_fits, rank_by_throws,
                           ring, size_fits, stretch_fits)
from throwshelves.bookpatterns import pattern_of
from throwshelves.capways import lot_or_way
from throwshelves.caps import book_under, keeps_caps, lot_under, most_rank
from throwshelves.cappapers import cap_paper, lets_caps
from throwshelves.errors import Barred

CAPS = (((0, 2), 1), ((1, 2), 1), ((2, 2), 1))
NO_CAPS = ODD + ((((0, 1), -1),), (((0, 1), True),), (((0, 5), 1),), (((4, 0), 1),), (((0, 1),),), [((0, 1), 1)],
                 ([(0, 1), 1],), (([0, 1], 1),), (((0, 1), 1, 1),), (((0, 1), 1), None), (((True, 1), 1),), ((0, 1, 1),))


def caps_fit(size, thing):
    return type(thing) is tuple and all(type(cap) is tuple and len(cap) == 2 and stretch_fits(size, cap[0]) and
                                        number(cap[1]) for cap in thing)


@cache
def patterns(size):
    return patterns_by_orders(size)


def kept(size, caps, places):
    """Whether of no stretch more places are told than its cap."""
    return all(len(set(ring(size, *stretch)) & set(places)) <= most for stretch, most in caps)


def keeps(pattern, caps):
    return all(rank_by_throws(pattern, *stretch) <= most for stretch, most in caps)


def some_caps(seed, sizes, each):
    chance, found = random.Random(seed), []
    for size in sizes:
        for k in range(each):
            many = chance.randint(0, 3 + size // 2)
            stretches = [(chance.randrange(size), chance.randint(0, size)) for _ in range(many)]
            found.append((size, tuple((stretch, chance.randint(0, stretch[1] if k % 2 else (stretch[1] + 1) // 2))
                                      for stretch in stretches)))
    return found


def small_caps():
    """Sizes and caps of them: no caps, one cap, pairs of caps of two places, and many others by chance."""
    one = [((start, length), most) for start in range(2) for length in range(3) for most in range(3)]
    found = [(2, caps) for caps in product(one, repeat=2)]
    found += [(size, ()) for size in (1, 2, 3, 4, 5)] + [(1, (((0, length), most),)) for length in (0, 1) for most in (0, 1)]
    found += [(3, (((start, length), most),)) for start in range(3) for length in range(4) for most in range(3)]
    return found + some_caps(70, (3, 4, 5), 80) + [(3, CAPS), (3, CAPS + CAPS), (4, (((0, 4), 0),)), (4, (((2, 0), 0),))]


def end_of(size, caps, step):
    """The gap at which a step begins, that at which it ends, how far it goes, and its price."""
    word, at = step
    if word == "on":
        return at, (at + 1) % size, 1, 1
    if word == "back":
        return (at + 1) % size, at, -1, 0
    (start, length), price = caps[at]
    return start, (start + length) % size, length, price


def bars(size, caps, rank, steps):
    """Whether steps are a closed way that bars a rank, by the words of [62]."""
    ends = [end_of(size, caps, step) for step in steps]
    if not ends or any(one[1] != two[0] for one, two in zip(ends, ends[1:])) or ends[-1][1] != ends[0][0]:
        return False
    rounds, left = divmod(sum(end[2] for end in ends), size)
    return left == 0 and rounds >= 1 and sum(end[3] for end in ends) < rounds * rank


class Caps(Held, unittest.TestCase):
    def check(self, size, caps):
        """Held against all sets of places; returns the greatest number of places of one that keeps the caps."""
        lots = [places for many in range(size + 1) for places in combinations(range(size), many)
                if kept(size, caps, places)]
        most = max(len(places) for places in lots)
        self.equal(most_rank(size, caps), most)
        for rank in range(size + 1):
            if rank > most:
                self.barred(size, caps, rank)
                continue
            lot = lot_under(size, caps, rank)
            self.assertTrue(lot in lots and len(lot) == rank and type(lot) is tuple)
            paper = cap_paper(size, caps, rank)
            self.assertTrue(type(paper) is tuple and paper[0] == "lot" and paper[1] in lots and len(paper[1]) == rank)
            self.assertIs(lets_caps(size, caps, rank, paper), True)
            for prime in PRIMES[rank % 6:][:1]:
                book = book_under(size, caps, rank, prime)
                self.assertEqual((book[:2], len(book[2])), ((prime, size), rank))
                self.assertTrue(keeps(pattern_of(book), caps))
        return most

    def barred(self, size, caps, rank):
        for call, args in ((lot_under, ()), (book_under, (7,))):
            with self.assertRaises(Barred) as caught:
                call(size, caps, rank, *args)
            bar = caught.exception.bar
            self.assertTrue(type(bar) is tuple and len(bar) == 2 and bar[0] == "way" and type(bar[1]) is tuple)
            self.assertTrue(bars(size, caps, rank, bar[1]))
            self.assertIs(lets_caps(size, caps, rank, bar), False)
        paper = cap_paper(size, caps, rank)
        self.assertTrue(paper[0] == "way" and bars(size, caps, rank, paper[1]))
        self.assertIs(lets_caps(size, caps, rank, paper), False)

    def test_against_all_lots_and_patterns(self):
        for size, caps in small_caps():
            most = self.check(size, caps)
            right = [p for p in patterns(size) if keeps(p, caps)]
            self.assertEqual(most, max(sum(p) // size for p in right))

    def test_up_to_twelve_places(self):
        for size, caps in some_caps(71, (6, 8, 10), 12) + some_caps(72, (12,), 4):
            self.check(size, caps)

    def test_ways_of_several_rounds(self):
        rounds = []
        for size, caps in small_caps() + some_caps(73, (5, 6, 7), 60):
            for rank in range(most_rank(size, caps) + 1, size + 1):
                steps = cap_paper(size, caps, rank)[1]
                rounds.append(sum(end_of(size, caps, step)[2] for step in steps) // size)
        self.assertGreater(max(rounds), 1)
        # Each two next places of three have at most one: only twice round is less than two of three.
        self.equal(most_rank(3, CAPS), 1)
        self.barred(3, CAPS, 2)

    def test_keeps_caps(self):
        for size, caps in small_caps():
            for pattern in patterns(size)[::1 + size // 4 * 3]:
                self.assertIs(keeps_caps(pattern, caps), keeps(pattern, caps))
        self.assertIs(keeps_caps(caps=(((0, 2), 1),), pattern=THROWS), True)
        self.assertIs(keeps_caps(THROWS, (((3, 2), 1),)), False)
        self.assertIs(keeps_caps(THROWS, ()), True)

    def test_ends(self):
        self.equal([most_rank(12, ()), most_rank(1, ()), most_rank(caps=(((0, 1), 0),), size=1)], [12, 1, 0])
        self.equal([most_rank(4, (((1, 4), 2), ((0, 4), 3))), most_rank(4, (((1, 0), 0),))], [2, 4])
        self.equal(book_under(prime=5, rank=1, caps=(((0, 2), 0),), size=3), (5, 3, ((0, 0, 1),)))
        self.equal([lot_under(3, (), 0), lot_under(3, (), 3), lot_under(rank=1, size=2, caps=(((0, 1), 0),))],
                   [(), (0, 1, 2), (1,)])
        self.equal(book_under(2, (), 0, 13), (13, 2, ()))

    def test_refused(self):
        calls = (lambda size, caps, rank: most_rank(size, caps), lot_under, cap_paper,
                 lambda *three: book_under(*three, None), lambda *three: lets_caps(*three, None))
        for call in calls:
            for thing in ODD + (0, -1):
                if not size_fits(thing):
                    self.unusable("size", call, thing, None, None)
            for thing in NO_CAPS:
                if not caps_fit(4, thing):
                    self.unusable("caps", call, 4, thing, None)
            for thing in ODD + (5, -1):
                if call is not calls[0] and not (number(thing) and thing <= 4):
                    self.unusable("rank", call, 4, (((0, 2), 1),), thing)
        for thing in NO_CAPS:
            if not caps_fit(4, thing):
                self.unusable("caps", keeps_caps, THROWS, thing)
        for thing in ODD + (4, 17):
            if not prime_fits(thing):
                self.unusable("prime", book_under, 3, CAPS, 2, thing)


class Checker(Held, unittest.TestCase):
    def test_all_lots(self):
        for size, caps in small_caps():
            for many in range(size + 1):
                for places in combinations(range(size), many):
                    broken = [k for k, cap in enumerate(caps) if not kept(size, (cap,), places)]
                    for rank in range(size + 1):
                        if rank != many:
                            self.invalid("places", -1, lets_caps, size, caps, rank, ("lot", places))
                        elif broken:
                            self.invalid("cap", broken[0], lets_caps, size, caps, rank, ("lot", places))
                        else:
                            self.assertIs(lets_caps(size, caps, rank, ("lot", places)), True)

    def test_all_short_ways(self):
        for size, caps, longest in ((1, (((0, 1), 0), ((0, 0), 0)), 3), (2, (((0, 1), 0), ((1, 2), 1)), 4),
                                    (3, (((0, 2), 1), ((2, 2), 1)), 4)):
            steps = [(word, at) for word in ("on", "back") for at in range(size)] + [("cap", k) for k in range(len(caps))]
            for many in range(longest + 1):
                for way in product(steps, repeat=many):
                    self.judge(size, caps, way)

    def judge(self, size, caps, way):
        ends = [end_of(size, caps, step) for step in way]
        parted = [k for k in range(1, len(way)) if ends[k][0] != ends[k - 1][1]]
        far, price = sum(end[2] for end in ends), sum(end[3] for end in ends)
        for rank in range(size + 1):
            args = (size, caps, rank, ("way", way))
            if parted:
                self.invalid("step", parted[0], lets_caps, *args)
            elif far % size != 0 or far <= 0:
                self.invalid("closed", -1, lets_caps, *args)
            elif price >= far // size * rank:
                self.invalid("price", -1, lets_caps, *args)
            else:
                self.assertTrue(bars(size, caps, rank, way))
                self.assertIs(lets_caps(*args), False)
                self.assertFalse([places for places in combinations(range(size), rank) if kept(size, caps, places)])

    def test_ways_of_several_rounds(self):
        way = (("cap", 0), ("cap", 2), ("cap", 1))
        self.assertIs(lets_caps(thing=("way", way), rank=2, caps=CAPS, size=3), False)
        self.assertIs(lets_caps(3, CAPS, 2, ("way", way + way)), False)
        self.assertIs(lets_caps(3, CAPS, 2, ("way", way[1:] + way[:1])), False)
        self.invalid("price", -1, lets_caps, 3, CAPS, 1, ("way", way))
        self.invalid("closed", -1, lets_caps, 3, CAPS, 2, ("way", way[:1]))
        # With steps back: over places 0 to 2 for 1, back over place 2, and over places 2 to 0 for 1.
        caps = (((0, 3), 1), ((2, 3), 1))
        self.assertIs(lets_caps(4, caps, 4, ("way", (("cap", 0), ("back", 2), ("cap", 1), ("back", 0)))), False)
        self.assertIs(lets_caps(4, caps, 3, ("way", (("back", 0), ("cap", 0), ("back", 2), ("cap", 1)))), False)
        self.invalid("price", -1, lets_caps, 4, caps, 2, ("way", (("back", 0), ("cap", 0), ("back", 2), ("cap", 1))))
        # Over an empty stretch, and all the way back.
        caps = (((1, 0), 0), ((1, 4), 2))
        self.assertIs(lets_caps(4, caps, 3, ("way", (("cap", 0), ("cap", 1), ("cap", 0)))), False)
        self.invalid("closed", -1, lets_caps, 4, caps, 3, ("way", (("cap", 0),)))
        back = tuple(("back", place) for place in (0, 3, 2, 1))
        self.invalid("closed", -1, lets_caps, 4, caps, 3, ("way", back))
        self.invalid("closed", -1, lets_caps, 4, caps, 3, ("way", (("cap", 1),) + back))

    def test_shape(self):
        for thing in ODD + (("lot",), ("lot", (), 0), ["lot", ()], ("lot", []), ("lot", None), ("way",), ("way", [("on", 0)]),
                            ("way", "on"), ("lots", ()), (None, ()), (("lot",), ()), (True, ()), ("", ()), "lot"):
            self.invalid("shape", -1, lets_caps, 3, CAPS, 1, thing)

    def test_places(self):
        for thing in ODD + ((2, 1), (1, 1), (0, 3), (0, True), (-1, 0), (0, 1, 2), (1,), ()):
            if type(thing) is tuple and not (places_fit(3, thing) and len(thing) == 2):
                self.invalid("places", -1, lets_caps, 3, CAPS, 2, ("lot", thing))
        self.invalid("cap", 1, lets_caps, 3, CAPS, 2, ("lot", (1, 2)))
        self.invalid("cap", 0, lets_caps, 3, (((2, 2), 0),) * 2, 1, ("lot", (0,)))

    def test_step(self):
        for thing in ODD + (("on", 3), ("on", -1), ("on", True), ("on",), ("on", 0, 0), ["on", 0], ("back", 3), ("back", True),
                            ("cap", 3), ("cap", -1), ("cap", False), ("over", 0), (None, 0), ("", 0), ("on", "0"), (("on",), 0),
                            "on"):
            self.invalid("step", 0, lets_caps, 3, CAPS, 2, ("way", (thing,)))
            self.invalid("step", 2, lets_caps, 3, CAPS, 2, ("way", (("on", 0), ("on", 1), thing, None)))
        self.invalid("step", 0, lets_caps, 3, (), 2, ("way", (("cap", 0),)))
        self.invalid("step", 1, lets_caps, 3, CAPS, 2, ("way", (("on", 0), ("on", 2))))
        self.invalid("step", 1, lets_caps, 3, CAPS, 2, ("way", (("back", 0), ("on", 1), None)))

    def test_a_helper(self):
        self.equal(lot_or_way(3, CAPS, 0), ("lot", ()))


if __name__ == "__main__":
    unittest.main()
