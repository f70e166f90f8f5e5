"""Books and their words."""

from throwshelves.demands import demand
from throwshelves.elimination import is_sum, lead_of, settled_rows
from throwshelves.kinds import is_book, is_prime, is_size, is_word


def span_of(prime, size, words):
    """The book whose words are all sums of multiples of these."""
    demand(is_prime(prime), "prime")
    demand(is_size(size), "size")
    demand(isinstance(words, tuple) and all([is_word(prime, size, word) for word in words]), "words")
    return (prime, size, settled_rows(prime, words))


def rank_of(book):
    """How many rows the book has."""
    return len(book[2])


def has_word(book, word):
    """Whether the word is one of the book."""
    prime, size, rows = book
    demand(is_word(prime, size, word), "word")
    return is_sum(prime, rows, word)


def words_of(book):
    """Yields all words of the book, ascending."""
    prime, size, rows = book
    # At the leads of the rows a word has its multiples of them, so these going up the words go up.
    multiples = [0 for _ in rows]
    word = tuple([0 for _ in range(size)])
    while multiples is not None:
        yield sum_of(prime, word, multiples, rows)
        multiples = counted_on(prime, multiples)


def sum_of(prime, word, multiples, rows):
    """The word with these multiples of the rows added."""
    for multiple, row in zip(multiples, rows):
        word = tuple([(one + multiple * digit) % prime for one, digit in zip(word, row)])
    return word


def counted_on(prime, multiples):
    """The next digits behind these, as numbers are counted; None behind the last ones."""
    for k in reversed(range(len(multiples))):
        if multiples[k] + 1 < prime:
            return multiples[:k] + [multiples[k] + 1] + [0 for _ in multiples[k + 1:]]
    return None


def is_like(book, other):
    """Whether any value is a book of the prime and the size of the book."""
    return is_book(other) and other[:2] == book[:2]


def is_part(book, other):
    """Whether each word of the book is one of the other one."""
    demand(is_like(book, other), "other")
    prime, _, rows = other
    return all([is_sum(prime, rows, row) for row in book[2]])


def together(book, other):
    """The book with the fewest words that has all words of both."""
    demand(is_like(book, other), "other")
    prime, size, rows = book
    return (prime, size, settled_rows(prime, rows + other[2]))


def common(book, other):
    """The book of the words that are in both."""
    demand(is_like(book, other), "other")
    # What agrees with all checks of both is in both, and the checks of the checks are the book.
    return checks_of(together(checks_of(book), checks_of(other)))


def checks_of(book):
    """The book of all words that have with each word of the book the sum 0."""
    prime, size, rows = book
    leads = [lead_of(row) for row in rows]
    words = [check_at(book, leads, place) for place in range(size) if place not in leads]
    return (prime, size, settled_rows(prime, words))


def check_at(book, leads, place):
    """The check with 1 at this place, that is no lead, and 0 at all others that are none."""
    prime, size, rows = book
    digits = [0 for _ in range(size)]
    digits[place] = 1
    for lead, row in zip(leads, rows):
        digits[lead] = -row[place] % prime
    return tuple(digits)
