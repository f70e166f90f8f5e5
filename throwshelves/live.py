"""A live ring, which is followed event by event."""

from throwshelves.bookpatterns import pattern_of
from throwshelves.demands import demand
from throwshelves.errors import InvalidEvent, NothingToUndo
from throwshelves.kinds import is_book, is_place
from throwshelves.livebars import reason_against
from throwshelves.liveevents import is_event
from throwshelves.livestates import first_state, held_in, left_in, mendable_in, open_in
from throwshelves.livesteps import state_after


class LiveRing:
    """A ring of shelves with a book, a word of it, and lost places, which events change."""

    MOST = 40

    def __init__(self, book):
        demand(is_book(book), "book")
        self._book = book
        self._events = ()
        # The state at the beginning, and that after each event.
        self._states = (first_state(book),)
        self._calls = 0

    @property
    def book_now(self):
        """The book."""
        return self._states[-1][0]

    @property
    def pattern_now(self):
        """The pattern of the book."""
        return pattern_of(self._states[-1][0])

    @property
    def held_now(self):
        """The word, with None at the lost places."""
        return held_in(self._states[-1])

    @property
    def lost_now(self):
        """The set of the lost places."""
        return self._states[-1][2]

    @property
    def mendable_now(self):
        """The set of the lost places that the next ones mend."""
        return mendable_in(self._states[-1])

    @property
    def left_now(self):
        """The set of the places that stay lost when others are mended as long as there are any."""
        return left_in(self._states[-1])

    @property
    def open_now(self):
        """How many rows of the book remain open to one who sees what is held."""
        return open_in(self._states[-1])

    def write(self, word):
        """Writes the word; nothing is lost then."""
        return self.go(("write", word))

    def lose(self, start, length):
        """Loses so many places from start on."""
        return self.go(("lose", start, length))

    def mend(self, place):
        """Mends the lost place by the next ones."""
        return self.go(("mend", place))

    def bridge(self, place, digit):
        """Adds digit times the place to the next one."""
        return self.go(("bridge", place, digit))

    def scale(self, place, digit):
        """Multiplies the place by the digit."""
        return self.go(("scale", place, digit))

    def turn(self, k):
        """Turns the ring by k places."""
        return self.go(("turn", k))

    def grow(self, place, column):
        """Puts in a place more ahead of the place, with this column."""
        return self.go(("grow", place, column))

    def shrink(self, place):
        """Takes the place away."""
        return self.go(("shrink", place))

    def go(self, event):
        """Applies any event, and tells what is held after it."""
        self._calls = self._calls + 1
        self.follow((event,))
        return self.held_now

    def follow(self, events):
        """Applies the events one after another, and counts no call."""
        for event in events:
            reason = self.barred(event)
            if reason is not None:
                raise InvalidEvent(event, reason)
            self._states = self._states + (state_after(self._states[-1], event),)
            self._events = self._events + (event,)

    def barred(self, event):
        """The reason for which any value would be refused as an event; None, if there is none."""
        return reason_against(self._states[-1], len(self._events) >= self.MOST, event)

    def tried(self, *events):
        """The book and what is held as they would be after these events."""
        state = self._states[-1]
        for k, event in enumerate(events):
            reason = reason_against(state, len(self._events) + k >= self.MOST, event)
            if reason is not None:
                raise InvalidEvent(event, reason)
            state = state_after(state, event)
        return (state[0], held_in(state))

    def undo(self):
        """Takes the last event back, and tells it."""
        self._calls = self._calls + 1
        if not self._events:
            raise NothingToUndo(1)
        event = self._events[-1]
        self._states = self._states[:-1]
        self._events = self._events[:-1]
        return event

    def do_all(self, *events, keep=False):
        """Applies the events in order, all or none, but with keep those ahead of the first one that is refused."""
        self._calls = self._calls + 1
        demand(isinstance(keep, bool), "keep")
        if not keep:
            self.tried(*events)
        self.follow(events)
        return len(events)

    def tally(self):
        """How many calls were started and finished."""
        # None can be asked while another one runs, so both are always as many.
        return (self._calls, self._calls)

    def log(self):
        """The book of the beginning, and the events that are not undone."""
        return (("ring", self._book),) + self._events

    def __getitem__(self, at):
        demand(is_place(len(self.held_now), at), "place")
        return self.held_now[at]

    def __contains__(self, x):
        return is_event(x) and x in self._events

    def __len__(self):
        return len(self._events)

    def __iter__(self):
        return iter(self._events)

    def __eq__(self, other):
        return isinstance(other, LiveRing) and self._book == other._book and self._events == other._events
