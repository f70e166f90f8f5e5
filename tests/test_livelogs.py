"""Live rings: tried, undo, do_all, tally, log, what is in them, and logs replayed [87], [89]."""

import random
import unittest

from tests.helpers import LINES, ODD, PRIMES, TWINS, Held, same, some_book
from tests.slowring import SlowRing, agree, event_fits, some_event, told_of
from tests.test_liveevents import NO_EVENTS
from throwshelves.bookclasses import Book
from throwshelves.live import LiveRing
from throwshelves.replaying import replayed
from throwshelves.ringclasses import Ring

EVENTS = (("write", (1, 1, 1, 0)), ("lose", 3, 2), ("bridge", 3, 1), ("scale", 1, 1), ("turn", -3), ("grow", 4, (1, 0)),
          ("mend", 1), ("shrink", 0))


def all_told(ring):
    return told_of(ring) + [ring.log(), len(ring), list(ring)]


def possible_events(book, seed, many):
    """So many events that nothing bars, the same ones at each run."""
    chance, slow, events = random.Random(seed), SlowRing(book), []
    while len(events) < many:
        event = some_event(chance, slow)
        if slow.reason(event) is None and not (event[0] == "grow" and slow.size > 6):
            slow.go(event)
            events.append(event)
    return events


def some_rings():
    for k, prime in enumerate(PRIMES):
        book = some_book(random.Random(110 + k), prime, 4, 2)
        yield book, possible_events(book, 120 + k, 25)
    yield TWINS, list(EVENTS)


class Undoing(Held, unittest.TestCase):
    def test_every_event(self):
        """Each event of all kinds is taken back, one after another, down to the beginning."""
        kinds = set()
        for book, events in some_rings():
            ring, told = LiveRing(book), []
            for event in events:
                told.append(all_told(ring))
                ring.go(event)
                kinds.add(event[0])
            for event in reversed(events):
                self.equal(ring.undo(), event)
                self.equal(all_told(ring), told.pop())
            self.refused("NothingToUndo", {"steps": 1}, ring.undo)
            self.equal(all_told(ring), all_told(LiveRing(book)))
            self.equal(ring.tally(), (2 * len(events) + 1,) * 2)
        self.assertEqual(kinds, {event[0] for event in EVENTS})

    def test_undone_and_gone_on(self):
        for book, events in some_rings():
            ring, slow = LiveRing(book), SlowRing(book)
            for event in events:
                ring.go(event)
                ring.undo()
                self.assertTrue(agree(ring, slow))
                ring.go(event)
                self.assertTrue(agree(ring, slow.go(event)))


class Trying(Held, unittest.TestCase):
    def test_tried(self):
        for book, events in some_rings():
            ring = LiveRing(book)
            self.equal(ring.tried(), (book, (0,) * book[1]))
            for k in range(0, len(events), 4):
                other = LiveRing(book)
                other.do_all(*events[:k + 4])
                before = all_told(ring)
                self.equal(ring.tried(*events[k:k + 4]), (other.book_now, other.held_now))
                self.equal(ring.tried(*events[k:k + 4], ("turn", 0)), (other.book_now, other.held_now))
                self.equal(all_told(ring), before)
                ring.do_all(*events[k:k + 4])
            self.equal(ring.tally()[0], len(range(0, len(events), 4)))

    def test_tried_refuses(self):
        ring = LiveRing(TWINS)
        ring.turn(1)
        before = all_told(ring)
        for events, event, reason in (((("turn", 1), ("mend", 0), ("shrink", 9)), ("mend", 0), "held"),
                                      ((None,), None, "shape"), ((("lose", 0, 1), ("lose", 0, 1)), ("lose", 0, 1), "lost"),
                                      ((("turn", 1),) * 40, ("turn", 1), "full")):
            self.refused("InvalidEvent", {"event": event, "reason": reason}, ring.tried, *events)
            self.equal(all_told(ring), before)
        self.equal(ring.tried(*[("turn", 1)] * 39), ring.tried(("turn", 39)))
        self.equal(ring.tally(), (1, 1))


class DoingAll(Held, unittest.TestCase):
    def test_all(self):
        for book, events in some_rings():
            for keep in ({}, {"keep": False}, {"keep": True}):
                ring, other = LiveRing(book), LiveRing(book)
                for event in events:
                    other.go(event)
                self.equal(ring.do_all(*events, **keep), len(events))
                self.equal(all_told(ring), all_told(other))
                self.equal([ring.tally(), ring.do_all(), ring.do_all(**keep), ring.tally()], [(1, 1), 0, 0, (3, 3)])

    def test_refused_ones(self):
        """Behind some events one that is refused: all is as before the first one, or as before this one."""
        bad = (("mend", 99), "place"), (None, "shape"), (("scale", 0, 0), "digit"), (["turn", 1], "shape"), (("write", ()), "word")
        for book, events in some_rings():
            for k in (0, 1, 5, 8):
                for event, reason in bad:
                    ring, other = LiveRing(book), LiveRing(book)
                    ring.turn(0)
                    other.turn(0)
                    before, many = all_told(ring), len(events[:k])
                    for keep in ({}, {"keep": False}):
                        self.refused("InvalidEvent", {"event": event, "reason": reason}, ring.do_all, *events[:k], event,
                                     ("mend", 98), **keep)
                        self.equal(all_told(ring), before)
                    self.refused("InvalidEvent", {"event": event, "reason": reason}, ring.do_all, *events[:k], event,
                                 ("mend", 98), keep=True)
                    other.do_all(*events[:k])
                    self.equal(all_told(ring), all_told(other))
                    self.equal([ring.tally(), len(ring)], [(4, 4), many + 1])

    def test_forty_events(self):
        ring = LiveRing(TWINS)
        events = [("turn", 1)] * 41
        self.refused("InvalidEvent", {"event": ("turn", 1), "reason": "full"}, ring.do_all, *events)
        self.equal(len(ring), 0)
        self.refused("InvalidEvent", {"event": ("turn", 1), "reason": "full"}, ring.do_all, *events, keep=True)
        self.equal([len(ring), ring.do_all(keep=True), ring.tally()], [40, 0, (3, 3)])

    def test_keep(self):
        ring = LiveRing(TWINS)
        many = 0
        for keep in ODD + (0, 1, ring):
            if type(keep) is not bool:
                self.unusable("keep", ring.do_all, ("turn", 1), keep=keep)
                self.unusable("keep", ring.do_all, None, ("mend", 9), keep=keep)
                many += 2
        self.equal([ring.tally(), len(ring)], [(many, many), 0])


class Tallies(Held, unittest.TestCase):
    def test_what_counts(self):
        ring = LiveRing(TWINS)
        for k, (call, args) in enumerate((
                (ring.write, ((1, 1, 1, 0),)), (ring.lose, (0, 2)), (ring.mend, (1,)), (ring.bridge, (0, 1)),
                (ring.scale, (0, 1)), (ring.turn, (1,)), (ring.grow, (0, (0, 0))), (ring.shrink, (0,)), (ring.go, (("turn", 1),)),
                (ring.undo, ()), (ring.do_all, (("turn", 1), ("turn", 2))))):
            call(*args)
            self.equal(ring.tally(), (k + 1, k + 1))
        for k, (call, args) in enumerate(((ring.write, (None,)), (ring.lose, (9, 9)), (ring.mend, (9,)), (ring.bridge, (9, 9)),
                                          (ring.scale, (9, 9)), (ring.turn, (None,)), (ring.grow, (9, None)), (ring.shrink, (9,)),
                                          (ring.go, (None,)), (ring.do_all, (None,)))):
            self.assertRaises(ValueError, call, *args)
            self.equal(ring.tally(), (k + 12, k + 12))

    def test_what_does_not_count(self):
        ring = LiveRing(TWINS)
        ring.lose(0, 1)
        for _ in range(2):
            all_told(ring)
            ring.barred(("mend", 0)), ring.barred(None), ring.tried(("mend", 0)), ring.tally(), ring.log()
            self.refused("InvalidEvent", {"event": None, "reason": "shape"}, ring.tried, None)
            ("lose", 0, 1) in ring, ring == ring, ring[0], list(ring)
            self.equal(ring.tally(), (1, 1))


class Logs(Held, unittest.TestCase):
    def test_log(self):
        for book, events in some_rings():
            ring = LiveRing(book)
            for k, event in enumerate(events):
                self.equal(ring.log(), (("ring", book),) + tuple(events[:k]))
                self.equal([len(ring), list(ring)], [k, events[:k]])
                ring.go(event)
                self.assertIs(event in ring, True)
            ring.undo()
            self.equal(ring.log(), (("ring", book),) + tuple(events[:-1]))

    def test_what_is_in_it(self):
        ring = LiveRing(TWINS)
        ring.do_all(*EVENTS)
        for event in EVENTS:
            self.assertIs(event in ring, True)
            self.assertIs(list(event) in ring, False)
        for thing in NO_EVENTS + (("turn", 3), ("scale", 1, True), ("scale", True, 1), ("lose", 3, 1), ("write", (1, 1, True, 0)),
                                  ring, TWINS, ("ring", TWINS), ("mend", False)):
            self.assertIs(thing in ring, False)
        ring.undo()
        self.assertIs(EVENTS[-1] in ring, False)

    def test_iterated_twice_at_once(self):
        ring, other = LiveRing(TWINS), LiveRing(TWINS)
        ring.do_all(*EVENTS)
        other.do_all(*EVENTS[:3])
        self.assertEqual([(a, b) for a in ring for b in ring], [(a, b) for a in EVENTS for b in EVENTS])
        self.assertEqual([(a, b) for a in ring for b in other], [(a, b) for a in EVENTS for b in EVENTS[:3]])
        both = iter(ring)
        self.equal([next(both), next(iter(ring)), next(both)], [EVENTS[0], EVENTS[0], EVENTS[1]])

    def test_equal(self):
        ring, other = LiveRing(TWINS), LiveRing(TWINS)
        for event in EVENTS:
            self.assertIs(ring == other, True)
            self.assertIs(ring != other, False)
            ring.go(event)
            self.assertIs(ring == other, False)
            self.assertIs(ring != other, True)
            other.turn(5)
            other.undo()
            other.go(event)
        # The log counts, not what has come of it.
        ring, other = LiveRing(TWINS), LiveRing(TWINS)
        ring.turn(0)
        other.turn(4)
        self.assertTrue(same(told_of(ring), told_of(other)) and not ring == other)
        for thing in ODD + (ring.log(), LiveRing(LINES), TWINS, Ring(TWINS), Book.of(TWINS)):
            self.assertIs(ring == thing, False)
            self.assertIs(thing == ring, False)
            self.assertIs(ring != thing, True)

    def test_results_belong_to_the_caller(self):
        ring = LiveRing(TWINS)
        found = list(ring)
        found.append(0)
        self.equal([len(ring), list(ring)], [0, []])


class Replaying(Held, unittest.TestCase):
    def test_replayed(self):
        for book, events in some_rings():
            ring = LiveRing(book)
            ring.do_all(*events)
            for log in (ring.log(), (("ring", book),)):
                other = replayed(log)
                self.assertIs(type(other), LiveRing)
                self.equal([other.tally(), other.log()], [(0, 0), log])
            other = replayed(log=ring.log())
            self.assertTrue(other == ring and other is not ring)
            self.equal(all_told(other), all_told(ring))
            self.equal([other.undo(), other.tally(), len(ring)], [events[-1], (1, 1), len(events)])

    def test_refused_events(self):
        head = (("ring", TWINS),)
        self.refused("InvalidEvent", {"event": ("mend", 0), "reason": "held"}, replayed, head + (("turn", 1), ("mend", 0), ("mend", 9)))
        self.refused("InvalidEvent", {"event": ("write", ()), "reason": "word"}, replayed, head + (("write", ()),))
        self.equal(len(replayed(head + (("turn", 1),) * 40)), 40)
        self.refused("InvalidEvent", {"event": ("turn", 2), "reason": "full"}, replayed,
                     head + (("turn", 1),) * 40 + (("turn", 2),))

    def test_no_logs(self):
        head = ("ring", TWINS)
        for thing in ODD + (head, [head], (list(head),), (("ring", 0),), EVENTS, (head, None), (head, ("turn", 1), ("turn", True)),
                            LiveRing(TWINS), (("ring", (2, 2, ((0, 0),))),), (head, head)):
            self.unusable("log", replayed, thing)
            self.unusable("log", replayed, log=thing)
        for thing in NO_EVENTS:
            self.assertFalse(event_fits(thing))
            self.unusable("log", replayed, (head, ("mend", 0), thing))


if __name__ == "__main__":
    unittest.main()
