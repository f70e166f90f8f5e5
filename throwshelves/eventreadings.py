"""Events and logs read from lines."""

from throwshelves.bookreadings import read_book
from throwshelves.demands import demand
from throwshelves.errors import InvalidText
from throwshelves.liveevents import shape_behind
from throwshelves.numberlines import number_in


def integer_in(word):
    """The integer that the word writes, with a sign below 0 alone; None, if it writes none."""
    if not word.startswith("-"):
        return number_in(word)
    number = number_in(word[1:])
    return None if number is None or number == 0 else -number


def value_in(shapes, k, word):
    """What the word behind k others writes, these shapes standing behind the head; None, if it cannot stand there."""
    if k < len(shapes) and shapes[k] == "integer":
        return integer_in(word)
    return number_in(word) if k < len(shapes) or shapes[-1] == "numbers" else None


def event_by(line, text):
    """The event that the text, the one of this index, writes."""
    words = text.split(" ")
    shapes = shape_behind(words[0])
    if shapes is None:
        raise InvalidText(line, 0)
    told = [value_in(shapes, k, word) for k, word in enumerate(words[1:])]
    for k, value in enumerate(told):
        if value is None:
            raise InvalidText(line, k + 1)
    singles = len([shape for shape in shapes if shape != "numbers"])
    if len(told) < singles:
        raise InvalidText(line, len(words))
    if singles == len(shapes):
        return (words[0], *told)
    return (words[0],) + tuple(told[:singles]) + (tuple(told[singles:]),)


def read_event(text):
    """The event that any string writes."""
    demand(isinstance(text, str), "text")
    return event_by(0, text)


def are_lines(thing):
    """Whether any value is a list of strings without newlines."""
    return isinstance(thing, list) and all([isinstance(line, str) and "\n" not in line for line in thing])


def read_log(lines):
    """The log that any list of strings without newlines writes."""
    demand(are_lines(lines), "lines")
    if not lines:
        raise InvalidText(0, 0)
    beginning = ("ring", read_book(lines[0]))
    return (beginning,) + tuple([event_by(k + 1, line) for k, line in enumerate(lines[1:])])
