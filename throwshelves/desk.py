"""A desk, at which a live ring is led by rows of text."""

from throwshelves.bookreadings import read_book
from throwshelves.errors import InvalidRow, InvalidText
from throwshelves.eventreadings import read_event
from throwshelves.eventtexts import event_line
from throwshelves.live import LiveRing


def told_line(things):
    """The things with single spaces between, - for None; - alone, if there are none."""
    return " ".join(["-" if thing is None else str(thing) for thing in things]) if things else "-"


def book_told(row):
    """The book that any string writes; None, if it writes none."""
    try:
        return read_book(row)
    except InvalidText:
        return None


def event_told(row):
    """The event that any string writes; None, if it writes none."""
    try:
        return read_event(row)
    except InvalidText:
        return None


def shown(ring, row):
    """What the ring tells for a row that asks for one thing; None for other rows."""
    if row == "held":
        return told_line(ring.held_now)
    if row == "lost":
        return told_line(ring.lost_now)
    if row == "mendable":
        return told_line(ring.mendable_now)
    if row == "left":
        return told_line(ring.left_now)
    if row == "open":
        return str(ring.open_now)
    if row == "pattern":
        return told_line(ring.pattern_now)
    if row == "events":
        return str(len(ring))
    if row == "log":
        return " / ".join([event_line(event) for event in ring]) if len(ring) > 0 else "-"
    return None


def bars_shown(ring, row):
    """What the ring tells for a row that asks for the reason against an event; None for other rows."""
    word, _, line = row.partition(" ")
    event = event_told(line)
    if word != "bars" or event is None:
        return None
    return told_line((ring.barred(event),))


def answer_of(ring, row):
    """The answer of the ring to any string; None, if it is no row for a ring."""
    if row == "undo":
        return event_line(ring.undo())
    event = event_told(row)
    if event is not None:
        return told_line(ring.go(event))
    answer = shown(ring, row)
    return bars_shown(ring, row) if answer is None else answer


class Desk:
    """A desk with a live ring, at first none."""

    def __init__(self):
        self._ring = None
        self._calls = 0

    def say(self, row):
        """The answer to the row."""
        self._calls = self._calls + 1
        if not isinstance(row, str):
            raise InvalidRow(row)
        book = book_told(row)
        if book is not None:
            self._ring = LiveRing(book)
            return "ok"
        answer = None if self._ring is None else answer_of(self._ring, row)
        if answer is None:
            raise InvalidRow(row)
        return answer

    def counts(self):
        """How many calls of say were started and finished."""
        # None can be asked while another one runs, so both are always as many.
        return (self._calls, self._calls)
