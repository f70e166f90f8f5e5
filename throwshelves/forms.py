"""Tuples that begin with a word."""


def is_form(forms, thing):
    """Whether any value is a tuple of a word and as many elements as one of the pairs has for this word."""
    if not isinstance(thing, tuple) or not thing or not isinstance(thing[0], str):
        return False
    return (thing[0], len(thing) - 1) in forms
