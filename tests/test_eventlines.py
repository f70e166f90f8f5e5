"""Events and logs as lines, and read from them [90], [91], with [21]."""

import copy
import random
import unittest

from tests.helpers import LINES, ODD, PRIMES, TWINS, Held, same, some_book
from tests.slowring import FORMS, event_fits
from tests.test_liveevents import EVENTS, NO_EVENTS
from throwshelves.booktexts import book_line
from throwshelves.eventreadings import read_event, read_log
from throwshelves.eventtexts import event_line, log_lines
from throwshelves.live import LiveRing

NUMBERS = (0, 1, 7, 10, 12, 10 ** 59, 10 ** 60 - 1)
# Words that are no numbers.
WRONG = ("", "01", "00", "x", "1x", "x1", "+1", "--1", "1-", "1.0", "1,0", "0x1", "1_0", "\n", "1\n", "\n1", "9" * 61, "0" * 2,
         "one", "None", "-", "1e3", "()", "-01", "-00", "-0", "-" + "9" * 61, "turn")


def some_events():
    """Events of every form, with numbers to sixty digits."""
    chance = random.Random(140)
    found = list(EVENTS)
    for _ in range(40):
        pick = [chance.choice(NUMBERS) for _ in range(6)]
        many = chance.randint(0, 4)
        found += [("write", tuple(pick[:many])), ("lose", pick[0], pick[1]), ("mend", pick[2]), ("bridge", pick[3], pick[4]),
                  ("scale", pick[5], pick[0]), ("turn", pick[1] * chance.choice((1, -1))), ("grow", pick[2], tuple(pick[:many])),
                  ("shrink", pick[3])]
    return found


def words_told(event):
    """The words of the line of an event."""
    words = [event[0]]
    for told in event[1:]:
        words += [str(one) for one in (told if type(told) is tuple else (told,))]
    return words


def number_told(word):
    return 0 < len(word) <= 60 and all(sign in "0123456789" for sign in word) and (word == "0" or word[0] != "0")


def integer_told(word):
    return number_told(word) or word[:1] == "-" and word != "-0" and number_told(word[1:])


def field_of(text):
    """The index of the first word that cannot stand, or how many words there are if one is missing, or None."""
    words = text.split(" ")
    if words[0] not in FORMS:
        return 0
    form = FORMS[words[0]]
    singles = form.replace("*", "")[:-1] if form.endswith("*") else form
    for k, word in enumerate(words[1:]):
        if k >= len(singles) and not form.endswith("*"):
            return k + 1
        if not (integer_told(word) if form == "i" else number_told(word)):
            return k + 1
    return len(words) if len(words) <= len(singles) else None


class Written(Held, unittest.TestCase):
    def test_events(self):
        for event in some_events():
            self.equal(event_line(event), " ".join(words_told(event)))
        self.equal(event_line(event=("turn", -10 ** 59)), "turn -1" + "0" * 59)
        self.equal([event_line(("write", ())), event_line(("grow", 2, ())), event_line(("grow", 2, (3, 0)))],
                   ["write", "grow 2", "grow 2 3 0"])

    def test_logs(self):
        for prime in PRIMES:
            book = some_book(random.Random(141), prime, 5, 3)
            for many in (0, 1, 19):
                log = (("ring", book),) + EVENTS[:many]
                lines = log_lines(log)
                self.equal(lines, [book_line(book)] + [event_line(event) for event in EVENTS[:many]])
                lines.append("")
                self.equal(len(log_lines(log=log)), many + 1)

    def test_refused(self):
        for thing in NO_EVENTS + (LiveRing(TWINS), "turn 1"):
            self.unusable("event", event_line, thing)
            self.unusable("event", event_line, event=thing)
            self.unusable("log", log_lines, (("ring", TWINS), thing))
        for thing in ODD + (EVENTS, [("ring", TWINS)], (["ring", TWINS],), ("ring", TWINS), LiveRing(TWINS), (("ring", 0),)):
            self.unusable("log", log_lines, thing)
            self.unusable("log", log_lines, log=thing)


class ReadEvents(Held, unittest.TestCase):
    def read(self, text):
        """What the text writes, or the field that is told."""
        field = field_of(text)
        if field is None:
            event = read_event(text)
            self.assertTrue(event_fits(event))
            self.equal(event_line(event), text)
            return True
        self.refused("InvalidText", {"line": 0, "field": field}, read_event, text)
        return False

    def test_there_and_back(self):
        for event in some_events():
            self.equal(read_event(event_line(event)), event)
            self.equal(read_event(text=event_line(event)), event)

    def test_a_word_less(self):
        told = set()
        for event in EVENTS[:2] + EVENTS[3:]:
            words = words_told(event)
            for k in range(len(words)):
                told.add((event[0], self.read(" ".join(words[:k] + words[k + 1:]))))
                told.add((event[0], self.read(" ".join(words[:k]))))
        self.assertIn(("lose", False), told)
        for text, field in (("lose", 1), ("lose 1", 2), ("mend", 1), ("bridge", 1), ("bridge 0", 2), ("scale 1", 2),
                            ("turn", 1), ("grow", 1), ("shrink", 1), ("", 0), (" ", 0), ("  ", 0), ("\n", 0)):
            self.refused("InvalidText", {"line": 0, "field": field}, read_event, text)
        self.equal([read_event("write"), read_event("grow 0")], [("write", ()), ("grow", 0, ())])

    def test_a_word_more(self):
        for event in EVENTS[:2] + EVENTS[3:]:
            words = words_told(event)
            for k in range(len(words) + 1):
                for word in ("0", "7", "-1", "", "x", "write"):
                    self.read(" ".join(words[:k] + [word] + words[k:]))
        for text, field in (("lose 1 2 3", 3), ("mend 1 2", 2), ("bridge 1 2 3 4", 3), ("turn -1 0", 2), ("shrink 0 ", 2),
                            ("turn 1 ", 2), (" turn 1", 0), ("turn  1", 1), ("write 1 ", 2), ("grow 0 1  2", 3)):
            self.refused("InvalidText", {"line": 0, "field": field}, read_event, text)

    def test_another_word(self):
        for event in EVENTS[:2] + EVENTS[3:]:
            words = words_told(event)
            for k in range(len(words)):
                for word in WRONG:
                    self.read(" ".join(words[:k] + [word] + words[k + 1:]))
        for head in FORMS:
            for word in WRONG:
                self.read(f"{head} {word}")
                self.read(f"{head} 1 {word}")
                self.read(f"{head} 1 1 {word}")

    def test_each_sign(self):
        for event in (("write", (1, 0)), ("lose", 3, 20), ("mend", 0), ("bridge", 0, 12), ("scale", 1, 6), ("turn", -10),
                      ("turn", 3), ("grow", 2, (1, 0)), ("shrink", 1)):
            line = event_line(event)
            for k in range(len(line) + 1):
                for sign in ("", " ", "-", "0", "1", "a", "T", "\n", ",", ".", "~"):
                    for text in (line[:k] + sign + line[k:], line[:k] + sign + line[k + 1:]):
                        self.read(text)

    def test_numbers(self):
        for number in ("9" * 60, "1" + "0" * 59):
            self.equal(read_event("mend " + number), ("mend", int(number)))
            self.equal(read_event("turn -" + number), ("turn", -int(number)))
            self.equal(read_event("turn " + number), ("turn", int(number)))
        for text in ("mend " + "9" * 61, "turn " + "9" * 61, "turn -" + "9" * 61, "mend -1", "turn -0", "turn 00", "turn --1"):
            self.refused("InvalidText", {"line": 0, "field": 1}, read_event, text)

    def test_no_texts(self):
        for thing in ODD + (("turn 1",), ["turn 1"], ("turn", 1)):
            if type(thing) is not str:
                self.unusable("text", read_event, thing)
                self.unusable("text", read_event, text=thing)
            else:
                self.refused("InvalidText", {"line": 0, "field": 0}, read_event, thing)


class ReadLogs(Held, unittest.TestCase):
    def test_there_and_back(self):
        for prime in PRIMES:
            log = (("ring", some_book(random.Random(142), prime, 6, 3)),) + tuple(some_events())
            lines = log_lines(log)
            kept = copy.copy(lines)
            self.equal(read_log(lines), log)
            self.equal(read_log(lines=lines), log)
            self.equal(lines, kept)
        for book in ((2, 1, ()), LINES, (13, 40, ())):
            self.equal(read_log([book_line(book)]), (("ring", book),))

    def test_the_line_and_the_field(self):
        events = EVENTS[:2] + EVENTS[3:]
        lines = log_lines((("ring", TWINS),) + events)
        for k in range(1, len(lines)):
            for text in ("", "turn", "turn 1 2", "mend x", "lose 1", "bridge 1 -1", "grow 1 01", lines[0], "book 2 1", "write 1  1"):
                told = lines[:k] + [text] + lines[k + 1:]
                self.refused("InvalidText", {"line": k, "field": field_of(text)}, read_log, told)
                self.refused("InvalidText", {"line": k, "field": field_of(text)}, read_log, told + ["mend"])
        for text, field in (("", 0), ("turn 1", 0), ("book", 1), ("book 4 1", 1), ("book 2", 2), ("book 2 0", 2), ("book 2 2 0,0", 3),
                            ("book 2 2 0,1 1,0", 4), ("book 2 2 ", 3), ("book 2 02", 2), ("ring 2 2", 0)):
            self.refused("InvalidText", {"line": 0, "field": field}, read_log, [text])
            self.refused("InvalidText", {"line": 0, "field": field}, read_log, [text, "mend"])

    def test_no_lines(self):
        self.refused("InvalidText", {"line": 0, "field": 0}, read_log, [])
        self.refused("InvalidText", {"line": 0, "field": 0}, read_log, lines=[])

    def test_refused(self):
        good = log_lines((("ring", TWINS), ("turn", 1)))
        for thing in ODD + (tuple(good), good[0], good + [None], [good], good + ["turn 1\n"], [good[0] + "\n"], ["\n"], [True],
                            good + [("turn", 1)], [1], LiveRing(TWINS), ["", None], ["x", "\n"]):
            if not (type(thing) is list and thing == []):
                self.unusable("lines", read_log, thing)
                self.unusable("lines", read_log, lines=thing)

    def test_kinds(self):
        told = read_log(["book 2 4 1,1,0,1 0,0,1,1", "turn -1", "write 1 1 1 0", "grow 0"])
        self.assertTrue(same(told, (("ring", TWINS), ("turn", -1), ("write", (1, 1, 1, 0)), ("grow", 0, ()))))


if __name__ == "__main__":
    unittest.main()
