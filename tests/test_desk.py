"""A desk [92], with [87], [90], [91]."""

import inspect
import random
import unittest

from tests.helpers import LINES, ODD, TWINS, Held
from tests.slowring import SlowRing, some_event
from throwshelves import desk as module
from throwshelves.booktexts import book_line
from throwshelves.desk import Desk
from throwshelves.eventtexts import event_line
from throwshelves.live import LiveRing

ASKING = ("held", "lost", "mendable", "left", "open", "pattern", "events", "log", "undo")
ROWS = ASKING + ("bars mend 0", "bars turn 1", "turn 1", "write 0 0 0 0", "write", "lose 0 1", "mend 0", "bridge 0 1", "scale 0 1",
                 "grow 0 0 0", "grow 0", "shrink 0")
NO_ROWS = ODD + (
    "", " ", "Held", "held ", " held", "held 1", "held\n", "\nheld", "heldlost", "undo 1", "undo ", "bars", "bars ", "bars  mend 0",
    "bars mend", "bars mend 0 0", "bars held", "bars undo", "bars bars mend 0", "bar mend 0", "bars mend 0\n", "mend", "mend 0 0",
    "mend -1", "mend 00", "turn", "turn x", "turn -0", "lose 0", "write x", "write 1,0", "grow", "book", "book 2", "book 4 1",
    "book 2 0", "book 2 2 0,0", "book 2 2 1,0 ", "book 2 2\n", "Book 2 2", "ok", "events 0", "log ", "open?", "ring", "-", "0",
    "book 2 2 1,0 / turn 1", "turn 1 / turn 2", None, 0, ("held",), ["held"], ("turn", 1), TWINS, b"held", ("ring", TWINS))


def shown(things):
    return " ".join("-" if thing is None else str(thing) for thing in things) or "-"


class Desks(Held, unittest.TestCase):
    def test_methods_stand_in_the_class(self):
        for name in ("__init__", "say", "counts"):
            self.assertIn(name, vars(Desk))
        self.assertEqual(Desk.__module__, module.__name__)
        self.assertEqual(list(inspect.signature(Desk).parameters), [])

    def test_ahead_of_the_first_book(self):
        desk, many = Desk(), 0
        self.equal(desk.counts(), (0, 0))
        for row in ROWS + NO_ROWS:
            self.refused("InvalidRow", {"row": row}, desk.say, row)
            self.refused("InvalidRow", {"row": row}, desk.say, row=row)
            many += 2
            self.equal(desk.counts(), (many, many))
        self.equal([desk.say("book 2 1"), desk.say("held"), desk.counts()], ["ok", "0", (many + 2, many + 2)])

    def test_no_rows_behind_it(self):
        desk = Desk()
        desk.say(book_line(TWINS))
        desk.say("lose 0 1")
        for k, row in enumerate(NO_ROWS):
            self.refused("InvalidRow", {"row": row}, desk.say, row)
            self.equal(desk.counts(), (k + 3, k + 3))
        self.equal([desk.say("log"), desk.say("held")], ["lose 0 1", "- 0 0 0"])

    def test_the_row_is_kept(self):
        desk, row = Desk(), ["held"]
        for _ in range(2):
            try:
                desk.say(row)
            except module.InvalidRow as error:
                self.assertIs(error.row, row)
            desk.say("book 2 1")

    def test_every_row(self):
        """A desk and a live ring side by side, event by event."""
        chance = random.Random(150)
        for book in (TWINS, LINES, (3, 1, ((1,),)), (5, 3, ()), (13, 6, ((1, 0, 12, 11, 10, 0), (0, 1, 1, 9, 0, 0)))):
            desk, ring, slow, said = Desk(), LiveRing(book), SlowRing(book), 1
            self.equal(desk.say(book_line(book)), "ok")
            for _ in range(25):
                event = some_event(chance, slow)
                if event[0] == "grow" and slow.size > 6:
                    continue
                line, reason = event_line(event), ring.barred(event)
                self.equal(desk.say("bars " + line), "-" if reason is None else reason)
                if reason is None:
                    self.equal(desk.say(line), shown(ring.go(event)))
                    slow.go(event)
                else:
                    self.refused("InvalidEvent", {"event": event, "reason": reason}, desk.say, line)
                self.ask(desk, ring)
                said += 10
                self.equal(desk.counts(), (said, said))
            for _ in range(len(ring)):
                self.equal(desk.say(row="undo"), event_line(ring.undo()))
                self.ask(desk, ring)
            self.refused("NothingToUndo", {"steps": 1}, desk.say, "undo")
            self.ask(desk, ring)

    def ask(self, desk, ring):
        self.equal([desk.say(row) for row in ASKING[:-1]],
                   [shown(ring.held_now), shown(ring.lost_now), shown(ring.mendable_now), shown(ring.left_now),
                    str(ring.open_now), shown(ring.pattern_now), str(len(ring)),
                    " / ".join(event_line(event) for event in ring) or "-"])

    def test_nothing_is_told_so(self):
        desk = Desk()
        desk.say(book_line(TWINS))
        self.equal([desk.say(row) for row in ASKING[:-1]],
                   ["0 0 0 0", "-", "-", "-", "0", "1 2 2 3", "0", "-"])
        self.equal([desk.say("lose 3 2"), desk.say("lost"), desk.say("mendable"), desk.say("left"), desk.say("open")],
                   ["- 0 0 -", "0 3", "0", "-", "0"])
        self.equal([desk.say("lose 0 4"), desk.say("mendable"), desk.say("left"), desk.say("open")],
                   ["- - - -", "-", "0 1 2 3", "2"])
        self.equal([desk.say("turn -1"), desk.say("log"), desk.say("events"), desk.say("bars turn 1"), desk.say("bars lose 0 1")],
                   ["- - - -", "lose 3 2 / lose 0 4 / turn -1", "3", "-", "lost"])

    def test_errors_of_the_ring(self):
        desk = Desk()
        desk.say(book_line(TWINS))
        for line, event, reason in (("write", ("write", ()), "word"), ("write 1", ("write", (1,)), "word"),
                                    ("lose 4 1", ("lose", 4, 1), "place"), ("mend 0", ("mend", 0), "held"),
                                    ("scale 0 2", ("scale", 0, 2), "digit"), ("grow 0", ("grow", 0, ()), "column"),
                                    ("lose 0 0", ("lose", 0, 0), "length")):
            self.refused("InvalidEvent", {"event": event, "reason": reason}, desk.say, line)
            self.equal(desk.say("bars " + line), reason)
        self.refused("NothingToUndo", {"steps": 1}, desk.say, "undo")
        self.equal([desk.say("events"), desk.counts()], ["0", (17, 17)])

    def test_full(self):
        desk = Desk()
        desk.say(book_line(TWINS))
        for _ in range(40):
            self.equal(desk.say("turn 1"), "0 0 0 0")
        self.refused("InvalidEvent", {"event": ("turn", 1), "reason": "full"}, desk.say, "turn 1")
        self.equal([desk.say("bars turn 1"), desk.say("events"), desk.say("undo"), desk.say("bars turn 1")],
                   ["full", "40", "turn 1", "-"])

    def test_a_new_book_on_the_way(self):
        desk = Desk()
        self.equal([desk.say(book_line(TWINS)), desk.say("write 1 1 1 0"), desk.say("lose 0 1"), desk.say(book_line(LINES)),
                    desk.say("held"), desk.say("log"), desk.say("events"), desk.say("lost"), desk.say("pattern")],
                   ["ok", "1 1 1 0", "- 1 1 0", "ok", "0 0 0 0", "-", "0", "-", "2 2 2 2"])
        self.refused("NothingToUndo", {"steps": 1}, desk.say, "undo")
        self.refused("InvalidRow", {"row": "book 7 4 1,0"}, desk.say, "book 7 4 1,0")
        self.equal([desk.say("scale 0 6"), desk.say("log"), desk.counts()], ["0 0 0 0", "scale 0 6", (13, 13)])

    def test_two_desks(self):
        one, other = Desk(), Desk()
        one.say("book 2 1")
        self.refused("InvalidRow", {"row": "held"}, other.say, "held")
        self.equal([one.counts(), other.counts(), one.say("held")], [(1, 1), (1, 1), "0"])


if __name__ == "__main__":
    unittest.main()
