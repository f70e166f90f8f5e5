"""Events by form, and logs [83]."""

import copy
import unittest

from tests.helpers import LINES, ODD, TWINS, Held, same
from tests.slowring import FORMS, event_fits
from throwshelves.bookclasses import Book
from throwshelves.live import LiveRing
from throwshelves.liveevents import is_event, is_log

EVENTS = (("write", ()), ("write", (1, 0, 12)), ("write", (0,) * 5000), ("lose", 0, 0), ("lose", 3, 10 ** 59), ("mend", 0),
          ("mend", 10 ** 60 - 1), ("bridge", 0, 0), ("bridge", 9, 12), ("scale", 1, 6), ("turn", 0), ("turn", -1),
          ("turn", 10 ** 59), ("turn", -10 ** 59), ("grow", 0, ()), ("grow", 2, (1, 0)), ("grow", 10 ** 59, (10 ** 59,)),
          ("shrink", 0), ("shrink", 7))
NO_EVENTS = ODD + (
    ("write",), ("write", 1), ("write", 1, 0), ("write", [1, 0]), ("write", (1, True)), ("write", (1, -1)), ("write", ("1",)),
    ("write", (1, 0), 0), ("write", ((1,),)), ("lose", 0), ("lose", 0, 1, 2), ("lose", -1, 1), ("lose", 0, -1),
    ("lose", True, 1), ("lose", 0, False), ("lose", (0,), 1), ("mend",), ("mend", -1), ("mend", None), ("mend", 0, 0),
    ("mend", False), ("bridge", 0), ("bridge", -1, 1), ("bridge", 0, -1), ("bridge", 0, True), ("bridge", 0, 1, 1),
    ("scale", 0), ("scale", 0, "1"), ("scale", 0, [1]), ("turn",), ("turn", True), ("turn", "1"), ("turn", (1,)), ("turn", 1, 1),
    ("turn", None), ("grow", 0), ("grow", (1,)), ("grow", 0, 1), ("grow", 0, [1]), ("grow", 0, (1, True)), ("grow", -1, ()),
    ("grow", 0, (-1,)), ("grow", True, ()), ("grow", 0, (), ()), ("shrink",), ("shrink", -1), ("shrink", "0"),
    ("shrink", 0, 0), ("Turn", 1), ("turn ", 1), ("undo",), ("go", ("turn", 1)), ("rest", 0), (b"turn", 1), (["turn"], 1),
    (("turn",), 1), ("ring", TWINS), (None, 1), ["turn", 1], ("", 1), (1, 1))


class Events(Held, unittest.TestCase):
    def test_events(self):
        for thing in EVENTS:
            self.assertIs(is_event(thing), True)
            self.assertIs(is_event(thing=thing), True)
            self.assertIs(is_event(list(thing)), False)
        self.assertEqual({thing[0] for thing in EVENTS}, set(FORMS))

    def test_no_events(self):
        for thing in NO_EVENTS + (LiveRing(TWINS), Book(2, 2)):
            kept = thing if isinstance(thing, (LiveRing, Book)) else copy.deepcopy(thing)
            self.assertIs(is_event(thing), False, repr(thing)[:60])
            self.assertFalse(event_fits(thing))
            if kept is not thing:
                self.assertTrue(same(thing, kept))

    def test_each_part(self):
        """Each element of each event in turn is each of many values."""
        values = ODD + (0, 1, -1, (), (0,), (-1,), (True,), "turn")
        for event in EVENTS:
            for k in range(len(event)):
                for value in values:
                    thing = event[:k] + (value,) + event[k + 1:]
                    self.assertIs(is_event(thing), event_fits(thing))
            self.assertIs(is_event(event[:-1]), event_fits(event[:-1]))
            self.assertIs(is_event(event + (0,)), event_fits(event + (0,)))


class Logs(Held, unittest.TestCase):
    def test_logs(self):
        for book in (TWINS, LINES, (2, 1, ()), (13, 30, ())):
            for many in (0, 1, len(EVENTS)):
                self.assertIs(is_log((("ring", book),) + EVENTS[:many]), True)
        self.assertIs(is_log(thing=(("ring", TWINS),) + EVENTS * 5), True)

    def test_no_logs(self):
        for thing in NO_EVENTS + ((), ("ring", TWINS), [("ring", TWINS)], (["ring", TWINS],), (("Ring", TWINS),),
                                  (("ring", TWINS, 0),), (("ring",),), (("ring", None),), ((True, TWINS),), (TWINS,),
                                  ((["ring"], TWINS),), (("ring", Book.of(TWINS)),), (("ring", (2, 2, ((0, 0),))),),
                                  (("ring", (2, 2, ((1, True),))),), (("ring", (4, 2, ())),), (("ring", [2, 2, ()]),),
                                  EVENTS, (("turn", 1), ("ring", TWINS)), LiveRing(TWINS)):
            self.assertIs(is_log(thing), False)

    def test_logs_with_what_is_no_event(self):
        for thing in NO_EVENTS:
            self.assertIs(is_log((("ring", TWINS), thing)), False)
            self.assertIs(is_log((("ring", TWINS), ("turn", 1), thing, ("turn", 1))), False)


if __name__ == "__main__":
    unittest.main()
