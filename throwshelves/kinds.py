"""Which values are integers, digits, words, books, stretches and the like. Any value may be asked."""

from throwshelves.elimination import lead_of

PRIMES = (2, 3, 5, 7, 11, 13)


def is_integer(thing):
    """Whether the value is an int, and no bool."""
    return isinstance(thing, int) and not isinstance(thing, bool)


def is_number(thing):
    """Whether the value is an integer that is at least 0."""
    return is_integer(thing) and thing >= 0


def is_prime(thing):
    """Whether the value is one of the primes of this program."""
    return is_integer(thing) and thing in PRIMES


def is_size(thing):
    """Whether the value is an integer from 1 on."""
    return is_integer(thing) and thing >= 1


def is_place(size, thing):
    """Whether the value is a place of a ring of this size."""
    return is_size(size) and is_number(thing) and thing < size


def is_digit(prime, thing):
    """Whether the value is a digit of the prime."""
    return is_prime(prime) and is_number(thing) and thing < prime


def are_digits(prime, many, thing):
    """Whether the value is a tuple of so many digits of the prime, perhaps of none."""
    if not isinstance(thing, tuple) or len(thing) != many:
        return False
    return all([is_digit(prime, digit) for digit in thing])


def are_factors(prime, many, thing):
    """Whether the value is a tuple of so many digits of the prime other than 0, perhaps of none."""
    return are_digits(prime, many, thing) and 0 not in thing


def is_word(prime, size, thing):
    """Whether the value is a word of the prime and the size."""
    return is_prime(prime) and is_size(size) and are_digits(prime, size, thing)


def is_stretch(size, thing):
    """Whether the value is a stretch of the size."""
    if not isinstance(thing, tuple) or len(thing) != 2:
        return False
    start, length = thing
    return is_place(size, start) and is_number(length) and length <= size


def is_places(size, thing):
    """Whether the value is a set of places of the size."""
    if not is_size(size) or not isinstance(thing, tuple):
        return False
    if not all([is_place(size, place) for place in thing]):
        return False
    return all([low < high for low, high in zip(thing, thing[1:])])


def row_fault(prime, size, ahead, row):
    """What bars the value as a row behind the rows ahead, as a checker tells it: a word and an at; or None."""
    k = len(ahead)
    if not is_word(prime, size, row):
        return ("row", k)
    at = lead_of(row)
    if at == size:
        return ("nought", k)
    if row[at] != 1:
        return ("lead", k)
    if k > 0 and at <= lead_of(ahead[k - 1]):
        return ("order", k)
    for j, other in enumerate(ahead):
        if other[at] != 0:
            return ("clear", (k, j))
    return None


def book_fault(thing):
    """What bars the value as a book, as a checker tells it: a word and an at; or None."""
    if not isinstance(thing, tuple) or len(thing) != 3:
        return ("shape", -1)
    prime, size, rows = thing
    if not is_prime(prime):
        return ("prime", -1)
    if not is_size(size):
        return ("size", -1)
    if not isinstance(rows, tuple):
        return ("rows", -1)
    for k, row in enumerate(rows):
        fault = row_fault(prime, size, rows[:k], row)
        if fault is not None:
            return fault
    return None


def is_book(thing):
    """Whether the value is a book."""
    return book_fault(thing) is None
