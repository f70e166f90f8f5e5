"""Lines of numbers, and the numbers in them."""

from throwshelves.demands import demand
from throwshelves.errors import InvalidText

MOST_DIGITS = 60


def number_in(word):
    """The number that the word writes; None, if it writes none."""
    if not word or len(word) > MOST_DIGITS:
        return None
    if not all([sign in "0123456789" for sign in word]):
        return None
    if word[0] == "0" and len(word) > 1:
        return None
    return int(word)


def numbers_in(text, head):
    """The numbers that any string writes behind the word head, at least one."""
    demand(isinstance(text, str), "text")
    words = text.split(" ")
    if words[0] != head:
        raise InvalidText(0, 0)
    if len(words) == 1:
        raise InvalidText(0, 1)
    numbers = [number_in(word) for word in words[1:]]
    for k, number in enumerate(numbers):
        if number is None:
            raise InvalidText(0, k + 1)
    return tuple(numbers)
