"""Patterns as lines, and read from lines [30], [32]."""

import unittest

from tests.helpers import ODD, Held, patterns_by_orders, some_patterns
from throwshelves.patternlines import pattern_line, pattern_read


class Lines(Held, unittest.TestCase):
    def fault(self, field, text):
        with self.subTest(text=text):
            self.refused("InvalidText", {"line": 0, "field": field}, pattern_read, text)

    def test_written_and_read(self):
        patterns = [p for size in (1, 2, 3, 4) for p in patterns_by_orders(size)] + some_patterns(16, (7, 12, 20, 300))
        for pattern in patterns:
            line = pattern_line(pattern)
            self.equal(line, "throws " + " ".join(str(throw) for throw in pattern))
            self.equal(pattern_read(line), pattern)

    def test_read_and_written(self):
        for line in ("throws 0", "throws 1", "throws 2 0", "throws 10 0 0 0 0 0 0 0 0 0"):
            self.equal(pattern_line(pattern_read(text=line)), line)

    def test_no_texts(self):
        for thing in ODD:
            if not isinstance(thing, str):
                self.unusable("text", pattern_read, thing)

    def test_words(self):
        for text in ("", " ", "Throws 1", "throw 1", "1", " throws 1", "throws\n 1", "throws,1", "word 1"):
            self.fault(0, text)
        for text in ("throws", "throws ", "throws  1", "throws x", "throws -1", "throws 01", "throws 00", "throws 1\n",
                     "throws 1,1", "throws +1", "throws " + "1" * 61, "throws 1_0", "throws x y"):
            self.fault(1, text)
        self.fault(2, "throws 1 ")
        self.fault(2, "throws 1 01")
        self.fault(4, "throws 9 9 9 x")
        self.fault(3, "throws 1 1  1")
        self.fault(3, "throws 1 0 x")

    def test_numbers_above(self):
        self.fault(1, "throws 2")
        self.fault(1, "throws " + "9" * 60)
        self.fault(2, "throws 0 3")
        self.fault(3, "throws 0 0 5 6")
        self.fault(4, "throws 0 0 4 5")
        self.fault(1, "throws 5 5 0 0")

    def test_clashes(self):
        self.fault(2, "throws 1 0")
        self.fault(2, "throws 2 1 3 2")
        self.fault(3, "throws 3 1 0 0")
        self.fault(4, "throws 3 0 0 0")
        # A number that is too great comes first, wherever it stands.
        self.fault(3, "throws 1 0 4")
        self.fault(4, "throws 2 1 3 5")


if __name__ == "__main__":
    unittest.main()
