"""A live ring: what it tells behind each event, by going through the words of its book [84], [85], [86], [88]."""

import inspect
import random
import unittest
from itertools import product

from tests.helpers import (LINES, ODD, PRIMES, TWINS, Held, all_books, book_fits, integer, number, place_fits, same,
                           some_book, some_patterns, words_by_sums)
from tests.slowring import SlowRing, agree, event_fits, numbers_fit, some_event, told_of
from throwshelves import live
from throwshelves.bookclasses import Book
from throwshelves.bridges import book_of
from throwshelves.live import LiveRing
from throwshelves.ringclasses import Ring

METHODS = ("__init__", "__getitem__", "__contains__", "__len__", "__iter__", "__eq__", "write", "lose", "mend", "bridge",
           "scale", "turn", "grow", "shrink", "go", "barred", "tried", "undo", "do_all", "tally", "log", "book_now",
           "pattern_now", "held_now", "lost_now", "mendable_now", "left_now", "open_now")
BOOKS = (TWINS, LINES, (2, 1, ()), (13, 1, ((1,),)), (3, 3, ()), (5, 2, ((1, 3),)), (2, 3, ((1, 0, 0), (0, 1, 0), (0, 0, 1))),
         (3, 5, ((1, 0, 2, 0, 1), (0, 1, 1, 0, 2))), (11, 3, ((0, 1, 10),)), (2, 6, ((1, 1, 0, 0, 1, 0), (0, 0, 1, 0, 1, 1))))


def some_sets(size, chance):
    return [(start, length) for start in range(size) for length in range(1, size + 1)] if size < 5 else [
        (chance.randrange(size), chance.randint(1, size)) for _ in range(12)]


class Beginning(Held, unittest.TestCase):
    def test_methods_stand_in_the_class(self):
        for name in METHODS:
            self.assertIn(name, vars(LiveRing))
        for name in METHODS[-7:]:
            self.assertIsInstance(inspect.getattr_static(LiveRing, name), property)
        self.assertEqual(LiveRing.__module__, live.__name__)
        self.equal([LiveRing.MOST, LiveRing(TWINS).MOST], [40, 40])

    def test_what_it_tells_at_first(self):
        for book in BOOKS + ((13, 12, ((1,) * 12,)), (2, 12, ())):
            ring = LiveRing(book)
            self.assertTrue(agree(ring, SlowRing(book)))
            self.equal([ring.book_now, ring.held_now, ring.lost_now], [book, (0,) * book[1], ()])
            self.equal([ring.tally(), len(ring), list(ring), ring.log()], [(0, 0), 0, [], (("ring", book),)])
        self.equal(LiveRing(book=LINES).book_now, LINES)

    def test_made_refuses(self):
        for thing in ODD + (Ring(TWINS), LiveRing(TWINS), Book.of(TWINS), (4, 2, ()), (2, 2, ((0, 0),)), [2, 2, ()],
                            (2, 2, ((1, True),)), (2, 2, ((0, 1), (1, 0))), ("ring", TWINS)):
            if not book_fits(thing):
                self.unusable("book", LiveRing, thing)
                self.unusable("book", LiveRing, book=thing)


class Following(Held, unittest.TestCase):
    def follow(self, book, chance, many):
        """Events by chance, possible or not, each held against the words of the book."""
        ring, slow, reasons = LiveRing(book), SlowRing(book), []
        while len(reasons) < many:
            event = some_event(chance, slow)
            if len(slow.words) > 600 and event[0] == "grow" or slow.size > 7 and event[0] == "grow":
                continue
            reason = slow.reason(event)
            reasons.append(reason)
            self.equal(ring.barred(event), reason)
            if reason is not None:
                before = told_of(ring)
                self.refused("InvalidEvent", {"event": event, "reason": reason}, ring.go, event)
                self.equal(told_of(ring), before)
                continue
            held = ring.go(event)
            slow.go(event)
            self.equal(held, slow.held())
            self.assertTrue(agree(ring, slow), (book, ring.log()))
        return reasons

    def test_by_words(self):
        chance, reasons = random.Random(100), []
        for book in BOOKS:
            for _ in range(5):
                reasons += self.follow(book, chance, 30)
        for prime in (2, 3, 5):
            for _ in range(10):
                reasons += self.follow(some_book(chance, prime, chance.randint(2, 6), chance.randint(1, 2)), chance, 20)
        self.assertEqual(set(reasons), {None, "place", "word", "length", "lost", "held", "none", "open", "alone", "digit",
                                        "column"})

    def test_losses_of_all_kinds(self):
        """What is mendable, left and open, for all sets of lost places of all small books."""
        for prime, size in ((2, 1), (2, 2), (2, 3), (3, 2), (2, 4), (3, 3)):
            for book in all_books(prime, size)[::1 if size < 4 else 3]:
                for lost in product((False, True), repeat=size):
                    ring, slow = LiveRing(book), SlowRing(book)
                    for place in range(size):
                        if lost[place]:
                            ring.lose(place, 1)
                            slow.go(("lose", place, 1))
                    self.assertTrue(agree(ring, slow))

    def test_mending(self):
        """Mending one by one comes to what is left, and never tells another digit than that of the word."""
        chance = random.Random(101)
        for book in BOOKS:
            for word in sorted(words_by_sums(book))[::7]:
                for start, length in some_sets(book[1], chance):
                    ring = LiveRing(book)
                    ring.write(word)
                    ring.lose(start, length)
                    left = ring.left_now
                    while ring.mendable_now:
                        ring.mend(chance.choice(ring.mendable_now))
                    self.equal(ring.lost_now, left)
                    self.equal(ring.held_now, tuple(None if at in left else word[at] for at in range(book[1])))
                    self.assertIs(left == (), ring.open_now == 0)

    def test_hidden_digits(self):
        """All is lost; what is changed then is changed in the hidden word too."""
        ring, slow = LiveRing(LINES), SlowRing(LINES)
        events = (("write", (1, 2, 3, 4)), ("lose", 0, 4), ("bridge", 3, 5), ("scale", 2, 6), ("turn", -3), ("grow", 2, (3, 1)),
                  ("bridge", 1, 2), ("grow", 0, (0, 0)), ("shrink", 3), ("scale", 1, 3), ("turn", 10 ** 59))
        for event in events:
            slow.go(event)
            self.equal(ring.go(event), slow.held())
        self.assertTrue(agree(ring, slow))
        # The lost ones of a ring in which enough is held are mended to the hidden word.
        self.assertIn(slow.word, slow.words)
        ring = LiveRing(LINES)
        ring.do_all(("write", (1, 1, 1, 1)), ("lose", 1, 2), ("bridge", 0, 1), ("bridge", 1, 3), ("scale", 2, 2))
        self.equal(ring.held_now, (1, None, None, 1))
        self.equal(ring.mend(2), (1, None, 0, 1))
        self.equal(ring.mend(1), (1, 2, 0, 1))

    def test_rank_falls_by_shrink(self):
        ring = LiveRing((3, 3, ((1, 0, 0), (0, 1, 2))))
        ring.write((2, 1, 2))
        self.equal([ring.shrink(0), ring.book_now, ring.pattern_now, ring.open_now], [(1, 2), (3, 2, ((1, 2),)), (1, 1), 0])
        self.equal([ring.undo(), ring.held_now, ring.book_now[2]], [("shrink", 0), (2, 1, 2), ((1, 0, 0), (0, 1, 2))])

    def test_greater_rings(self):
        chance = random.Random(102)
        for prime in PRIMES:
            book = some_book(chance, prime, 12, 2)
            ring, slow = LiveRing(book), SlowRing(book)
            for event in (("lose", 3, 4), ("write", sorted(slow.words)[-1]), ("lose", 10, 4), ("bridge", 11, prime - 1),
                          ("turn", 5), ("shrink", 11), ("grow", 11, (1,) * len(slow.rows())), ("scale", 0, prime - 1)):
                self.equal(ring.barred(event), slow.reason(event))
                if slow.reason(event) is None:
                    self.equal(ring.go(event), slow.go(event).held())
            self.assertTrue(agree(ring, slow))

    def test_patterns_of_events(self):
        """scale leaves the pattern; bridge exchanges two landings, or leaves it for all digits but at most one."""
        for prime in PRIMES:
            for throws in [(1, 2, 2, 3), (2, 2, 2, 2), (0, 3, 3), (1, 1)] + some_patterns(104, (5,), each=2):
                book, size = book_of(throws, prime), len(throws)
                for place in range(size):
                    near, far = place + throws[place], place + 1 + throws[(place + 1) % size]
                    swapped = list(throws)
                    swapped[place], swapped[(place + 1) % size] = far - place, near - place - 1
                    told = []
                    for digit in range(1, prime):
                        ring = LiveRing(book)
                        ring.scale(place, digit)
                        self.equal(ring.pattern_now, throws)
                        ring = LiveRing(book)
                        ring.bridge(place, digit)
                        told.append(ring.pattern_now)
                    others = [one for one in told if one != throws]
                    self.assertTrue(all(one == tuple(swapped) for one in others))
                    if near > far:
                        self.equal(len(others), prime - 1)
                    else:
                        self.assertLessEqual(len(others), 1)

    def test_left_and_open_of_several_stretches(self):
        """If nothing is left, nothing is open; the other way round only where the lost places are one stretch."""
        unlike = 0
        for book in all_books(2, 4) + [LINES]:
            for lost in product((False, True), repeat=4):
                ring = LiveRing(book)
                for place in range(4):
                    if lost[place]:
                        ring.lose(place, 1)
                one = len([k for k in range(4) if lost[k] and not lost[k - 1]]) <= 1
                if one:
                    self.assertIs(ring.left_now == (), ring.open_now == 0)
                elif ring.left_now == ():
                    self.equal(ring.open_now, 0)
                elif ring.open_now == 0:
                    unlike += 1
        self.assertGreater(unlike, 0)


class Methods(Held, unittest.TestCase):
    def test_each_method_is_its_event(self):
        ring, other = LiveRing(TWINS), LiveRing(TWINS)
        calls = (("write", {"word": (1, 1, 1, 0)}), ("lose", {"start": 3, "length": 2}), ("mend", {"place": 0}),
                 ("bridge", {"place": 3, "digit": 1}), ("scale", {"place": 2, "digit": 1}), ("turn", {"k": -3}),
                 ("grow", {"place": 4, "column": (1, 0)}), ("shrink", {"place": 0}))
        for name, named in calls:
            event = (name, *named.values())
            held = other.go(event=event)
            self.equal(getattr(ring, name)(**named), held)
            self.equal([ring.held_now, list(ring)[-1]], [held, event])
            self.assertTrue(ring == other)
            ring.undo()
            self.equal(getattr(ring, name)(*named.values()), held)
        self.equal([other.tally(), ring.tally()], [(8, 8), (24, 24)])

    def test_what_they_are_given_may_be_any_values(self):
        ring = LiveRing(TWINS)
        for thing in ODD + ([1, 1, 1, 0], ring, TWINS):
            if not numbers_fit(thing):
                self.refused("InvalidEvent", {"event": ("write", thing), "reason": "shape"}, ring.write, thing)
                self.refused("InvalidEvent", {"event": ("grow", 0, thing), "reason": "shape"}, ring.grow, 0, thing)
            if not number(thing):
                for name in ("mend", "shrink"):
                    self.refused("InvalidEvent", {"event": (name, thing), "reason": "shape"}, getattr(ring, name), thing)
                for name in ("lose", "bridge", "scale"):
                    for args in ((thing, 1), (0, thing), (thing, thing)):
                        self.refused("InvalidEvent", {"event": (name, *args), "reason": "shape"}, getattr(ring, name), *args)
                self.refused("InvalidEvent", {"event": ("grow", thing, ()), "reason": "shape"}, ring.grow, thing, ())
            if not integer(thing):
                self.refused("InvalidEvent", {"event": ("turn", thing), "reason": "shape"}, ring.turn, thing)
            if not event_fits(thing):
                self.refused("InvalidEvent", {"event": thing, "reason": "shape"}, ring.go, thing)
        self.equal(told_of(ring), told_of(LiveRing(TWINS)))
        self.equal(len(ring), 0)

    def test_the_event_is_kept_as_handed_in(self):
        ring = LiveRing(TWINS)
        for thing in (["turn", 1], ("turn", [1]), object(), ring, ("mend", 9)):
            try:
                ring.go(thing)
            except live.InvalidEvent as error:
                self.assertIs(error.event, thing)
                continue
            self.fail("no error")

    def test_items(self):
        ring = LiveRing(TWINS)
        ring.do_all(("write", (1, 1, 1, 0)), ("lose", 3, 2))
        self.equal([ring[place] for place in range(4)], [None, 1, 1, None])
        for at in ODD + (4, -1, "0", (0,), slice(None)):
            if not place_fits(4, at):
                self.unusable("place", lambda place: ring[place], at)
        ring.shrink(0)
        self.unusable("place", lambda place: ring[place], 3)
        self.assertTrue(same(ring[2], None))


if __name__ == "__main__":
    unittest.main()
