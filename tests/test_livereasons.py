"""Why a live ring refuses events: each reason by itself, and ahead of each one behind it [85]."""

import random
import unittest

from tests.helpers import LINES, TWINS, Held
from tests.slowring import SlowRing, told_of
from throwshelves.live import LiveRing

# Modulo 3, size 3, whose place 0 is told by no others, and place 2 has noughts.
ALONE = (3, 3, ((1, 0, 0), (0, 1, 0)))
ONE = (5, 1, ((1,),))
NOUGHT = (5, 1, ())
TWELVE = (2, 12, ((1,) * 12,))
FULL = tuple(("turn", 1) for _ in range(40))


class Reasons(Held, unittest.TestCase):
    def refuses(self, book, ahead, event, reason):
        """The event is refused for the reason behind these events, and changes nothing but tally."""
        ring, slow = LiveRing(book), SlowRing(book)
        for one in ahead:
            ring.go(one)
            slow.go(one)
        before, log, many = told_of(ring), ring.log(), ring.tally()[0]
        self.equal([ring.barred(event), ring.barred(event=event), slow.reason(event)], [reason] * 3)
        self.equal(ring.tally(), (many, many))
        self.refused("InvalidEvent", {"event": event, "reason": reason}, ring.go, event)
        self.refused("InvalidEvent", {"event": event, "reason": reason}, getattr(ring, event[0]), *event[1:])
        self.refused("InvalidEvent", {"event": event, "reason": reason}, ring.tried, event)
        self.refused("InvalidEvent", {"event": event, "reason": reason}, ring.do_all, event, keep=True)
        self.equal([told_of(ring), ring.log(), len(ring)], [before, log, len(ahead)])
        self.equal(ring.tally(), (many + 3, many + 3))

    def lets(self, book, ahead, event):
        ring, slow = LiveRing(book), SlowRing(book)
        for one in ahead + (event,):
            self.equal(ring.barred(one), None)
            self.equal(ring.go(one), slow.go(one).held())

    def test_shape_ahead_of_all(self):
        ring = LiveRing(TWINS)
        ring.do_all(*FULL)
        for event in (("write", [1]), ("mend", -1), ("bridge", 9), ("lose", 9, -1), ("grow", 9, (1, -1)), (), None, ("turn",)):
            self.equal([ring.barred(event), LiveRing(TWINS).barred(event)], ["shape", "shape"])
            self.refused("InvalidEvent", {"event": event, "reason": "shape"}, ring.go, event)

    def test_full(self):
        for event in (("turn", 0), ("write", (0, 0, 0, 0)), ("write", (1, 1)), ("lose", 9, 0), ("lose", 0, 1), ("mend", 0),
                      ("mend", 9), ("bridge", 9, 9), ("scale", 0, 1), ("grow", 9, ()), ("shrink", 9), ("shrink", 0)):
            self.refuses(TWINS, FULL, event, "full")
        self.lets(TWINS, FULL[:39], ("turn", 0))
        self.refuses(ONE, FULL, ("shrink", 0), "full")

    def test_full_and_undone(self):
        ring = LiveRing(TWINS)
        self.equal(ring.do_all(*FULL), 40)
        self.equal([ring.barred(("turn", 1)), ring.undo(), ring.barred(("turn", 1)), ring.turn(2)],
                   ["full", ("turn", 1), None, (0, 0, 0, 0)])
        self.equal([len(ring), ring.barred(("turn", 1))], [40, "full"])
        self.refused("InvalidEvent", {"event": ("turn", 5), "reason": "full"}, ring.turn, 5)

    def test_place(self):
        for book, size in ((TWINS, 4), (ONE, 1), (TWELVE, 12)):
            for place in (size, size + 1, 10 ** 59):
                for event in (("mend", place), ("shrink", place), ("bridge", place, 0), ("bridge", place, 1),
                              ("scale", place, 0), ("scale", place, 1), ("lose", place, 0), ("lose", place, 1),
                              ("lose", place, size + 1)):
                    self.refuses(book, (), event, "place")
                self.refuses(book, (("lose", 0, size),), ("lose", place, 1), "place")
            for column in ((), (9,), (1,) * len(book[2])):
                self.refuses(book, (), ("grow", size + 1, column), "place")
        self.lets(TWINS, (), ("grow", 4, (1, 1)))
        self.lets(TWINS, (), ("shrink", 3))
        self.lets(TWINS, (), ("lose", 3, 1))

    def test_write(self):
        for word in ((1, 0, 0, 0), (), (1, 1, 1), (1, 1, 1, 0, 0), (1, 1, 1, 2), (10 ** 59, 0, 0, 0), (3, 1, 1, 0)):
            self.refuses(TWINS, (("lose", 0, 4),), ("write", word), "word")
        for word in sorted(SlowRing(TWINS).words):
            self.lets(TWINS, (("lose", 0, 4),), ("write", word))
        ring = LiveRing(TWINS)
        ring.lose(1, 3)
        self.equal([ring.write((1, 1, 0, 1)), ring.lost_now], [(1, 1, 0, 1), ()])

    def test_lose(self):
        for book, size in ((TWINS, 4), (ONE, 1), (TWELVE, 12)):
            for length in (0, size + 1, 10 ** 59):
                self.refuses(book, (), ("lose", size - 1, length), "length")
                self.refuses(book, (("lose", 0, size),), ("lose", 0, length), "length")
            self.refuses(book, (("lose", 0, size),), ("lose", 0, 1), "lost")
            self.refuses(book, (("lose", 0, size),), ("lose", size - 1, size), "lost")
            self.lets(book, (), ("lose", size - 1, size))
        self.refuses(TWINS, (("lose", 3, 2),), ("lose", 3, 2), "lost")
        self.lets(TWINS, (("lose", 3, 2),), ("lose", 3, 3))
        self.lets(TWINS, (("lose", 0, 3),), ("lose", 3, 4))

    def test_mend(self):
        self.refuses(TWINS, (), ("mend", 0), "held")
        self.refuses(TWINS, (("lose", 1, 3),), ("mend", 0), "held")
        # Held, where the throw is the size; none, where it is lost.
        self.refuses(ALONE, (), ("mend", 0), "held")
        self.refuses(ALONE, (("lose", 0, 1),), ("mend", 0), "none")
        self.refuses(ALONE, (("lose", 0, 3),), ("mend", 0), "none")
        self.lets(ALONE, (("lose", 0, 3),), ("mend", 2))
        self.refuses(ONE, (("lose", 0, 1),), ("mend", 0), "none")
        self.lets(NOUGHT, (("lose", 0, 1),), ("mend", 0))
        self.refuses(TWINS, (("lose", 0, 2),), ("mend", 0), "open")
        self.lets(TWINS, (("lose", 0, 2),), ("mend", 1))
        self.lets(TWINS, (("lose", 0, 2), ("mend", 1)), ("mend", 0))
        self.refuses(LINES, (("lose", 0, 1), ("lose", 2, 1)), ("mend", 0), "open")
        # Other ways are not sought: the places ahead would tell it, but a next one is lost.
        self.refuses(LINES, (("lose", 0, 2),), ("mend", 0), "open")
        self.equal(LiveRing(LINES).open_now, 0)

    def test_bridge(self):
        for digit in (0, 1, 4, 5, 10 ** 59):
            self.refuses(ONE, (), ("bridge", 0, digit), "alone")
            self.refuses(ONE, (), ("bridge", 1, digit), "place")
        for digit in (0, 7, 8, 10 ** 59):
            self.refuses(LINES, (), ("bridge", 3, digit), "digit")
        for digit in range(1, 7):
            self.lets(LINES, (("write", (1, 1, 1, 1)), ("lose", 0, 2)), ("bridge", 3, digit))

    def test_scale(self):
        for digit in (0, 7, 10 ** 59):
            self.refuses(LINES, (), ("scale", 0, digit), "digit")
            self.refuses(LINES, (("lose", 0, 4),), ("scale", 3, digit), "digit")
        for digit in range(1, 7):
            self.lets(LINES, (("write", (1, 1, 1, 1)), ("lose", 0, 2)), ("scale", 0, digit))
        self.lets(ONE, (("write", (3,)),), ("scale", 0, 4))
        self.refuses(TWINS, (), ("scale", 0, 2), "digit")

    def test_turn(self):
        for k in (0, 1, -1, 4, 10 ** 59, -10 ** 59):
            for book in (TWINS, ONE, TWELVE):
                self.lets(book, (("lose", 0, 1),), ("turn", k))

    def test_grow(self):
        for column in ((), (1,), (1, 1), (2,), (9, 9)):
            self.refuses(TWELVE, (), ("grow", 0, column), "many")
            self.refuses(TWELVE, (), ("grow", 12, column), "many")
            self.refuses(TWELVE, (), ("grow", 13, column), "place")
        for column in ((), (1,), (1, 1, 1), (1, 2), (2, 0), (10 ** 59, 0)):
            self.refuses(TWINS, (), ("grow", 0, column), "column")
        self.refuses(NOUGHT, (), ("grow", 0, (0,)), "column")
        self.lets(NOUGHT, (("lose", 0, 1),), ("grow", 0, ()))
        self.lets(TWELVE, (("shrink", 4),), ("grow", 11, (1,)))
        self.refuses(TWELVE, (("shrink", 4), ("grow", 11, (0,))), ("grow", 0, (1,)), "many")
        for place in range(5):
            self.lets(TWINS, (("write", (1, 1, 1, 0)), ("lose", 1, 2)), ("grow", place, (1, 1)))

    def test_shrink(self):
        self.refuses(ONE, (), ("shrink", 0), "alone")
        self.refuses(ONE, (("lose", 0, 1),), ("shrink", 0), "alone")
        self.refuses(ONE, (), ("shrink", 1), "place")
        self.refuses(TWINS, (("shrink", 0), ("shrink", 0), ("shrink", 0)), ("shrink", 0), "alone")
        for place in range(4):
            self.lets(TWINS, (("write", (1, 1, 1, 0)), ("lose", 1, 2)), ("shrink", place))

    def test_one_and_twelve_places(self):
        chance = random.Random(103)
        for book in (ONE, NOUGHT, TWELVE):
            slow = SlowRing(book)
            for word in sorted(slow.words)[:4]:
                self.lets(book, (("write", word),), ("lose", chance.randrange(book[1]), book[1]))
                self.lets(book, (("write", word), ("lose", 0, 1)), ("turn", chance.randint(-99, 99)))
        self.lets(ONE, (("write", (3,)), ("lose", 0, 1), ("grow", 0, (2,))), ("mend", 1))
        self.lets(TWELVE, (("write", (1,) * 12), ("lose", 0, 11)), ("mend", 10))


if __name__ == "__main__":
    unittest.main()
