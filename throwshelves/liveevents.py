"""Events of live rings by their form, and logs of them."""

from throwshelves.kinds import is_book, is_integer, is_number

# What stands behind each word: a number, an integer, or, always last, a tuple of numbers.
SHAPES = {
    "write": ("numbers",),
    "lose": ("number", "number"),
    "mend": ("number",),
    "bridge": ("number", "number"),
    "scale": ("number", "number"),
    "turn": ("integer",),
    "grow": ("number", "numbers"),
    "shrink": ("number",),
}


def shape_behind(word):
    """What stands behind the word, if events begin with it; None otherwise."""
    return SHAPES.get(word)


def is_shaped(shape, thing):
    """Whether any value is a number, an integer or a tuple of numbers, as the shape tells."""
    if shape == "numbers":
        return isinstance(thing, tuple) and all([is_number(one) for one in thing])
    return is_number(thing) if shape == "number" else is_integer(thing)


def is_event(thing):
    """Whether any value is an event by form."""
    if not isinstance(thing, tuple) or not thing or not isinstance(thing[0], str):
        return False
    shapes = shape_behind(thing[0])
    if shapes is None or len(thing) != len(shapes) + 1:
        return False
    return all([is_shaped(shape, one) for shape, one in zip(shapes, thing[1:])])


def is_beginning(thing):
    """Whether any value is the pair of the word ring and a book, with which logs begin."""
    return isinstance(thing, tuple) and len(thing) == 2 and thing[0] == "ring" and is_book(thing[1])


def is_log(thing):
    """Whether any value is a log."""
    if not isinstance(thing, tuple) or not thing or not is_beginning(thing[0]):
        return False
    return all([is_event(event) for event in thing[1:]])
