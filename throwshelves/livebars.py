"""The reasons for which a live ring refuses events."""

from throwshelves.bookpatterns import throw_at
from throwshelves.books import has_word
from throwshelves.kinds import are_digits, is_digit, is_word
from throwshelves.liveevents import is_event
from throwshelves.livestates import mendable_in
from throwshelves.ringplaces import places_from

MOST_PLACES = 12


def write_bar(state, word):
    """The reason against the word; None, if there is none."""
    book = state[0]
    prime, size, _ = book
    return None if is_word(prime, size, word) and has_word(book, word) else "word"


def lose_bar(state, start, length):
    """The reason against losing so many places; None, if there is none."""
    book, _, lost = state
    if length == 0 or length > book[1]:
        return "length"
    return "lost" if all([place in lost for place in places_from(book[1], start, length)]) else None


def mend_bar(state, place):
    """The reason against mending the place; None, if there is none."""
    book, _, lost = state
    if place not in lost:
        return "held"
    if throw_at(book, place) == book[1]:
        return "none"
    return None if place in mendable_in(state) else "open"


def digit_bar(state, digit):
    """The reason against multiplying by the digit; None, if there is none."""
    prime, _, _ = state[0]
    return None if digit != 0 and is_digit(prime, digit) else "digit"


def grow_bar(state, column):
    """The reason against a place more with this column; None, if there is none."""
    prime, size, rows = state[0]
    if size >= MOST_PLACES:
        return "many"
    return None if are_digits(prime, len(rows), column) else "column"


def is_placed(state, event):
    """Whether the place of an event by form, if it has one, is one of the ring."""
    size = state[0][1]
    word = event[0]
    if word in ("write", "turn"):
        return True
    return event[1] <= size if word == "grow" else event[1] < size


def placed_bar(state, event):
    """The reason against an event by form whose place is one of the ring; None, if there is none."""
    word = event[0]
    if word == "write":
        return write_bar(state, event[1])
    if word == "lose":
        return lose_bar(state, event[1], event[2])
    if word == "mend":
        return mend_bar(state, event[1])
    if word == "grow":
        return grow_bar(state, event[2])
    if word in ("bridge", "shrink") and state[0][1] == 1:
        return "alone"
    return digit_bar(state, event[2]) if word in ("bridge", "scale") else None


def reason_against(state, is_full, thing):
    """The reason against any value as the next event; None, if there is none."""
    if not is_event(thing):
        return "shape"
    if is_full:
        return "full"
    return placed_bar(state, thing) if is_placed(state, thing) else "place"
