"""A slow live ring to hold the program against: it goes through all words of the book, and knows no rows but these."""

from tests.helpers import number, place_fits, same, word_fits, words_by_sums

FORMS = {"write": "n*", "lose": "nn", "mend": "n", "bridge": "nn", "scale": "nn", "turn": "i", "grow": "nn*", "shrink": "n"}
MOST = 40


def numbers_fit(thing):
    return type(thing) is tuple and all(number(one) for one in thing)


def event_fits(thing):
    """Whether it is an event by form."""
    if type(thing) is not tuple or thing == () or type(thing[0]) is not str or thing[0] not in FORMS:
        return False
    told = thing[1:]
    if thing[0] == "write":
        return len(told) == 1 and numbers_fit(told[0])
    if thing[0] == "grow":
        return len(told) == 2 and number(told[0]) and numbers_fit(told[1])
    if thing[0] == "turn":
        return len(told) == 1 and type(told[0]) is int
    return len(told) == len(FORMS[thing[0]]) and all(number(one) for one in told)


def first_digit(word):
    return next(at for at, digit in enumerate(word) if digit != 0)


class SlowRing:
    """The words of the book, the word now, and the lost places, at a time."""

    def __init__(self, book):
        self.prime, self.size, _ = book
        self.words = words_by_sums(book)
        self.word = (0,) * self.size
        self.lost = set()
        self.many = 0

    def copied(self):
        other = SlowRing.__new__(SlowRing)
        other.prime, other.size, other.words, other.word = self.prime, self.size, self.words, self.word
        other.lost, other.many = set(self.lost), self.many
        return other

    def rows(self):
        """The rows in settled form: of the words with 1 as the first digit, those with 0 where others begin."""
        leads = sorted({first_digit(word) for word in self.words if any(word)})
        rows = [[word for word in self.words if any(word) and all(word[at] == (at == lead) for at in leads)]
                for lead in leads]
        assert all(len(found) == 1 for found in rows)
        return tuple(found[0] for found in rows)

    def book(self):
        return (self.prime, self.size, self.rows())

    def held(self):
        return tuple(None if at in self.lost else digit for at, digit in enumerate(self.word))

    def next_ones(self, place, many):
        return [(place + k) % self.size for k in range(1, many + 1)]

    def throw(self, place):
        """How many next places tell the digit: all words that are 0 there are 0 here."""
        for many in range(self.size):
            if not any(word[place] for word in self.words if not any(word[at] for at in self.next_ones(place, many))):
                return many
        return self.size

    def pattern(self):
        return tuple(self.throw(place) for place in range(self.size))

    def mendable_of(self, throws, lost):
        return {at for at in lost if throws[at] < self.size and not lost & set(self.next_ones(at, throws[at]))}

    def mendable(self):
        return tuple(sorted(self.mendable_of(self.pattern(), self.lost)))

    def left(self):
        throws, lost = self.pattern(), set(self.lost)
        while self.mendable_of(throws, lost):
            lost.discard(min(self.mendable_of(throws, lost)))
        return tuple(sorted(lost))

    def open(self):
        """How often the prime divides the number of the words that are 0 at all held places."""
        many, rank = sum(not any(word[at] for at in range(self.size) if at not in self.lost) for word in self.words), 0
        while many > 1:
            many, rank = many // self.prime, rank + 1
        return rank

    def told(self):
        return [self.book(), self.pattern(), self.held(), tuple(sorted(self.lost)), self.mendable(), self.left(),
                self.open()]

    def digit_bars(self, digit):
        return None if 0 < digit < self.prime else "digit"

    def reason(self, event):
        """The first reason of the document for which the event is refused, or None."""
        if not event_fits(event):
            return "shape"
        if self.many >= MOST:
            return "full"
        word, told = event[0], event[1:]
        if word not in ("write", "turn") and told[0] >= self.size + (word == "grow"):
            return "place"
        return getattr(self, "bars_" + word)(*told)

    def bars_write(self, word):
        return None if word in self.words else "word"

    def bars_lose(self, start, length):
        if not 1 <= length <= self.size:
            return "length"
        return None if {(start + k) % self.size for k in range(length)} - self.lost else "lost"

    def bars_mend(self, place):
        if place not in self.lost:
            return "held"
        if self.throw(place) == self.size:
            return "none"
        return None if place in self.mendable() else "open"

    def bars_bridge(self, _, digit):
        return "alone" if self.size == 1 else self.digit_bars(digit)

    def bars_scale(self, _, digit):
        return self.digit_bars(digit)

    def bars_turn(self, _):
        return None

    def bars_grow(self, _, column):
        if self.size >= 12:
            return "many"
        return None if word_fits(self.prime, len(self.rows()), column) else "column"

    def bars_shrink(self, _):
        return "alone" if self.size == 1 else None

    def change(self, how, lost):
        """All words, and the word now, changed alike."""
        self.words, self.word = {how(word) for word in self.words}, how(self.word)
        self.lost = lost
        self.size = len(self.word)

    def go(self, event):
        """The event, which nothing bars."""
        assert self.reason(event) is None
        getattr(self, "do_" + event[0])(*event[1:])
        self.many += 1
        return self

    def do_write(self, word):
        self.word, self.lost = word, set()

    def do_lose(self, start, length):
        self.lost = self.lost | {(start + k) % self.size for k in range(length)}

    def do_mend(self, place):
        self.lost = self.lost - {place}

    def do_bridge(self, place, digit):
        behind = (place + 1) % self.size
        self.change(lambda w: tuple((one + (at == behind) * digit * w[place]) % self.prime for at, one in enumerate(w)),
                    self.lost)

    def do_scale(self, place, digit):
        self.change(lambda w: tuple(one * (digit if at == place else 1) % self.prime for at, one in enumerate(w)), self.lost)

    def do_turn(self, k):
        self.change(lambda w: tuple(w[(at - k) % len(w)] for at in range(len(w))), {(at + k) % self.size for at in self.lost})

    def do_grow(self, place, column):
        leads = [first_digit(row) for row in self.rows()]
        beside = {word: sum(word[at] * digit for at, digit in zip(leads, column)) % self.prime for word in self.words}
        self.change(lambda w: w[:place] + (beside[w],) + w[place:], {at + (at >= place) for at in self.lost})

    def do_shrink(self, place):
        self.change(lambda w: w[:place] + w[place + 1:], {at - (at > place) for at in self.lost if at != place})


def told_of(ring):
    """What a live ring tells, as SlowRing.told."""
    return [ring.book_now, ring.pattern_now, ring.held_now, ring.lost_now, ring.mendable_now, ring.left_now, ring.open_now]


def agree(ring, slow):
    return same(told_of(ring), slow.told()) and place_fits(slow.size, 0)


def some_event(chance, slow):
    """An event by form, mostly a possible one."""
    size, prime, wild = slow.size, slow.prime, chance.random() < 0.15
    place = chance.randint(0, size + 1) if wild else chance.randrange(size)
    digit = chance.randint(0, prime + 1) if wild else chance.randrange(1, prime)
    word = chance.choice(("write", "lose", "lose", "lose", "mend", "mend", "bridge", "bridge", "scale", "turn", "grow",
                          "shrink"))
    if word == "write":
        return ("write", chance.choice(sorted(slow.words)) if not wild else (1,) * size)
    if word == "lose":
        return ("lose", place, chance.randint(0, size + 1) if wild else chance.randint(1, min(3, size)))
    if word == "mend":
        return ("mend", chance.choice(slow.mendable() or (place,)))
    if word == "turn":
        return ("turn", chance.choice((-1, 1, 2, -10 ** 59, 10 ** 59)))
    if word == "grow":
        many = len(slow.rows()) + (chance.randint(-1, 1) if wild else 0)
        return ("grow", min(place, size), tuple(chance.randrange(prime) for _ in range(max(0, many))))
    return ("shrink", place) if word == "shrink" else (word, place, digit)
