"""What the tests share: values of all kinds, many books and patterns, and slow answers to hold the program against.

Nothing here uses the program but its errors, so that a fault of the program is not repeated here.
"""

import random
from functools import cache
from itertools import combinations, permutations, product

from throwshelves import errors

PRIMES = (2, 3, 5, 7, 11, 13)
LINES = (7, 4, ((1, 0, 6, 5), (0, 1, 2, 3)))
TWINS = (2, 4, ((1, 1, 0, 1), (0, 0, 1, 1)))
THROWS = (1, 2, 2, 3)


def nest(depth, pack):
    """A value so deep in tuples, or in lists."""
    value = 0
    for _ in range(depth):
        value = pack([value])
    return value


# Values of all kinds that "any value" may be.
ODD = (
    True, False, None, "", "0", "1", "book", "x" * 4000, (), [], (()), ((),), [()], (True,), (False, True), [0], [1, 0],
    (0, [1]), (None,), ("1",), ((0, 1),), ((True, 2),), -1, 0, 1, 2, 4, 6, 9, 10 ** 59, 10 ** 60 - 1, -10 ** 59,
    (10 ** 59,), (0, 10 ** 59), (-1, 0), (0, -1), (0, True), (True, 0), (2, 4, ()), [2, 4, ()], (2, 4, []),
    (2, True, ()), (True, 4, ()), (4, 4, ()), nest(30, tuple), nest(30, list), tuple(range(5000)), (0,) * 5000,
)


def same(one, other):
    """Whether both values are equal and of the same kinds throughout: True is not 1."""
    if type(one) is not type(other):
        return False
    if isinstance(one, (tuple, list)):
        return len(one) == len(other) and all(same(a, b) for a, b in zip(one, other))
    return one == other


def fields_of(error):
    """The name of the error and its fields."""
    return type(error).__name__, dict(vars(error))


def integer(thing):
    return type(thing) is int


def number(thing):
    return type(thing) is int and thing >= 0


def size_fits(thing):
    return type(thing) is int and thing >= 1


def prime_fits(thing):
    return type(thing) is int and thing in PRIMES


def word_fits(prime, size, thing):
    return type(thing) is tuple and len(thing) == size and all(number(d) and d < prime for d in thing)


def stretch_fits(size, thing):
    if type(thing) is not tuple or len(thing) != 2:
        return False
    return number(thing[0]) and thing[0] < size and number(thing[1]) and thing[1] <= size


def places_fit(size, thing):
    if type(thing) is not tuple or not all(number(place) and place < size for place in thing):
        return False
    return list(thing) == sorted(set(thing))


def place_fits(size, thing):
    return number(thing) and thing < size


def pattern_fits(thing):
    """Whether it is a pattern, by an order of all places that it comes to."""
    if type(thing) is not tuple or thing == () or not all(number(one) and one <= len(thing) for one in thing):
        return False
    return len({(i + throw) % len(thing) for i, throw in enumerate(thing)}) == len(thing)


def book_fits(thing):
    """Whether it is a book: its rows are those that they would be settled to."""
    if type(thing) is not tuple or len(thing) != 3:
        return False
    prime, size, rows = thing
    if not prime_fits(prime) or not size_fits(size) or type(rows) is not tuple:
        return False
    if not all(word_fits(prime, size, row) and any(row) for row in rows):
        return False
    leads = [next(at for at in range(size) if row[at] != 0) for row in rows]
    if leads != sorted(set(leads)):
        return False
    return all(row[at] == (1 if leads[k] == at else 0) for k, row in enumerate(rows) for at in leads)


def factors_fit(prime, size, thing):
    return word_fits(prime, size, thing) and 0 not in thing


def landing(pattern, i):
    """Where the ball of any integer lands, as an integer."""
    return i + pattern[i % len(pattern)]


def books_of_rank(prime, size, rank):
    """All books of this prime, size and rank."""
    for leads in combinations(range(size), rank):
        free = [(k, at) for k in range(rank) for at in range(leads[k] + 1, size) if at not in leads]
        for digits in product(range(prime), repeat=len(free)):
            rows = [[int(at == lead) for at in range(size)] for lead in leads]
            for (k, at), digit in zip(free, digits):
                rows[k][at] = digit
            yield (prime, size, tuple(tuple(row) for row in rows))


def all_books(prime, size):
    """All books of this prime and size."""
    return [book for rank in range(size + 1) for book in books_of_rank(prime, size, rank)]


def some_book(chance, prime, size, rank):
    """A book of this prime, size and rank, with more noughts than usual."""
    leads = sorted(chance.sample(range(size), rank))
    rows = [[int(at == lead) for at in range(size)] for lead in leads]
    for at in range(size):
        empty = chance.random() < 0.2
        for k in range(rank):
            if leads[k] < at and at not in leads and not empty and chance.random() < 0.7:
                rows[k][at] = chance.randrange(prime)
    return (prime, size, tuple(tuple(row) for row in rows))


def some_books(seed, sizes, each=3):
    """Books of all primes and of these sizes, of ranks from 0 to the size, the same ones at each run."""
    chance = random.Random(seed)
    books = []
    for prime in PRIMES:
        for size in sizes:
            ranks = {0, size} | {chance.randint(0, size) for _ in range(each)}
            books += [some_book(chance, prime, size, rank) for rank in sorted(ranks)]
    return books


def small_books():
    """All books that are small enough to go through all their words: of one to four places, of all primes."""
    books = [book for size in (1, 2, 3, 4) for book in all_books(2, size)]
    books += [book for size in (1, 2, 3) for book in all_books(3, size)]
    books += [book for prime in (5, 7, 11, 13) for size in (1, 2) for book in all_books(prime, size)]
    return books + [LINES, TWINS]


def words_by_sums(book):
    """All words of the book, by all multiples of its rows."""
    prime, size, rows = book
    words = set()
    for multiples in product(range(prime), repeat=len(rows)):
        words.add(tuple(sum(m * row[at] for m, row in zip(multiples, rows)) % prime for at in range(size)))
    return words


def rank_by_words(prime, words, places):
    """The rank of the columns of these places: how many digits tell all that the words may have there."""
    many, rank = len({tuple(word[at] for at in places) for word in words}), 0
    while many > 1:
        many, rank = many // prime, rank + 1
    return rank


def ring(size, start, length):
    return [(start + k) % size for k in range(length)]


def patterns_by_orders(size):
    """All patterns of the size, ascending: an order of the places, and 0 or the size where a place comes to itself."""
    patterns = set()
    for order in permutations(range(size)):
        choices = [(0, size) if order[i] == i else ((order[i] - i) % size,) for i in range(size)]
        patterns.update(product(*choices))
    return sorted(patterns)


def some_patterns(seed, sizes, each=6):
    """Patterns of these sizes, the same ones at each run."""
    chance = random.Random(seed)
    patterns = []
    for size in sizes:
        for _ in range(each):
            order = chance.sample(range(size), size)
            choices = [((order[i] - i) % size or chance.choice((0, size))) for i in range(size)]
            patterns.append(tuple(choices))
        patterns += [(0,) * size, (size,) * size, (chance.randint(0, size),) * size]
    return patterns


@cache
def matches(size, balls):
    """All patterns of the size with so many balls, ascending."""
    return tuple(p for p in patterns_by_orders(size) if sum(p) == size * balls)


def all_matches(sizes):
    """For each size and each number of balls all patterns."""
    return [matches(size, balls) for size in sizes for balls in range(size + 1)]


@cache
def swaps_down(pattern):
    """The lowering swaps of the pattern: each pair with the pattern that it makes, by the landings."""
    size, found = len(pattern), {}
    for i in range(size):
        for j in range(i + 1, i + size):
            throws = list(pattern)
            throws[i], throws[j % size] = landing(pattern, j) - i, landing(pattern, i) - j
            if landing(pattern, i) < landing(pattern, j) and all(0 <= throw <= size for throw in throws):
                found[(i, j)] = tuple(throws)
    return found


@cache
def all_below(pattern):
    """All patterns to which lowering swaps lead, one after another, or none."""
    found, new = {pattern}, [pattern]
    while new:
        new = [low for one in new for low in swaps_down(one).values() if low not in found]
        found |= set(new)
    return found


@cache
def falls_of(pattern):
    """The depth: the pairs of integers of which the first ball lands behind the second one."""
    size = len(pattern)
    return sum(landing(pattern, i) > landing(pattern, j) for i in range(size) for j in range(i + 1, i + 3 * size))


@cache
def close_swaps(pattern):
    """The lowering swaps by which the depth is one more: each pair with the pattern that it makes."""
    return {pair: low for pair, low in swaps_down(pattern).items() if falls_of(low) == falls_of(pattern) + 1}


def rank_by_throws(pattern, start, length):
    """The rank of a stretch: its length less the throws within it, counted one by one."""
    within = 0
    for k in range(length):
        if k + pattern[(start + k) % len(pattern)] < length:
            within += 1
    return length - within


def table_by_throws(pattern):
    size = len(pattern)
    return tuple(tuple(rank_by_throws(pattern, start, many) for many in range(size + 1)) for start in range(size))


class Held:
    """What is mixed into tests."""

    def refused(self, name, fields, call, /, *args, **named):
        """The call raises exactly this error with exactly these fields."""
        try:
            call(*args, **named)
        except errors.RingError as error:
            self.assertIs(type(error), getattr(errors, name))
            self.assertEqual(list(fields), list(vars(error)))
            for field, value in fields.items():
                self.assertTrue(same(getattr(error, field), value), (args, field, getattr(error, field), value))
            return
        self.fail(f"no {name} for {args} {named}")

    def unusable(self, word, call, /, *args, **named):
        self.refused("NotUsable", {"word": word, "at": -1}, call, *args, **named)

    def invalid(self, word, at, call, /, *args, **named):
        self.refused("InvalidPaper", {"word": word, "at": at}, call, *args, **named)

    def equal(self, told, wanted, about=None):
        """Both are equal, and of the same kinds throughout."""
        self.assertTrue(same(told, wanted), f"{told!r} for {wanted!r} {'' if about is None else about!r}")
