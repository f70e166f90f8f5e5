"""Events and logs written as lines."""

from throwshelves.booktexts import book_line
from throwshelves.demands import demand
from throwshelves.liveevents import is_event, is_log


def numbers_of(event):
    """The numbers of an event by form, those of a tuple one by one."""
    numbers = []
    for told in event[1:]:
        numbers.extend(list(told) if isinstance(told, tuple) else [told])
    return numbers


def line_of(event):
    """The line of what is certainly an event by form."""
    words = [str(number) for number in numbers_of(event)]
    return " ".join([event[0], *words])


def event_line(event):
    """The line of an event by form."""
    demand(is_event(event), "event")
    return line_of(event)


def log_lines(log):
    """The lines of a log: that of its book, and one for each event."""
    demand(is_log(log), "log")
    _, book = log[0]
    return [book_line(book)] + [line_of(event) for event in log[1:]]
