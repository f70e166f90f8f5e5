"""Patterns that are kin [70], with [63], [66]."""

import unittest

from tests.helpers import ODD, THROWS, Held, landing, pattern_fits, patterns_by_orders, same, some_patterns
from throwshelves.symmetries import kin_of, kin_step, least_kin, turns_of

LEVEL = (2, 2, 2, 2)


def turned(pattern, k):
    return tuple(pattern[(at - k) % len(pattern)] for at in range(len(pattern)))


def mirrored(pattern):
    found = {-landing(pattern, i) % len(pattern): throw for i, throw in enumerate(pattern)}
    return tuple(found[at] for at in range(len(pattern)))


def checked(pattern):
    found = {landing(pattern, i) % len(pattern): len(pattern) - throw for i, throw in enumerate(pattern)}
    return tuple(found[at] for at in range(len(pattern)))


CHANGES = (("turned", lambda p: p), ("mirrored", mirrored), ("checks", checked), ("both", lambda p: mirrored(checked(p))))


def step_between(one, other):
    if len(one) != len(other):
        return None
    for word, change in CHANGES:
        for k in range(len(one)):
            if turned(change(one), k) == other:
                return (word, k)
    return None


def many_patterns():
    return [p for size in (1, 2, 3, 4, 5) for p in patterns_by_orders(size)] + some_patterns(80, (6, 8, 12), each=4)


class Symmetries(Held, unittest.TestCase):
    def test_turns(self):
        for pattern in many_patterns():
            self.equal(turns_of(pattern), tuple(k for k in range(len(pattern)) if turned(pattern, k) == pattern))

    def test_kin(self):
        for pattern in many_patterns():
            size = len(pattern)
            kin = {turned(one, k) for one in (pattern, mirrored(pattern)) for k in range(size)}
            self.equal(kin_of(pattern), tuple(sorted(kin)))
            self.equal(least_kin(pattern), min(kin))
            for other in kin_of(pattern)[:3]:
                self.equal(kin_of(other), kin_of(pattern))
            self.equal(2 * size % len(kin), 0)

    def test_steps_between_all(self):
        for size in (1, 2, 3, 4):
            found = patterns_by_orders(size)
            for one in found:
                for other in found:
                    self.equal(kin_step(one, other), step_between(one, other))

    def test_steps_of_each_word(self):
        words = set()
        for one in many_patterns():
            for word, change in CHANGES:
                for k in (0, 1, len(one) - 1):
                    other = turned(change(one), k)
                    told = kin_step(one, other)
                    self.equal(told, step_between(one, other))
                    words.add(told[0])
        self.assertEqual(words, {"turned", "mirrored", "checks", "both"})

    def test_other_sizes(self):
        for other in ((0,), (1,), (1, 1), (2, 2, 2), (2,) * 5, (0,) * 12):
            self.equal(kin_step(LEVEL, other), None)
            self.equal(kin_step(other, LEVEL), None)
        self.equal(kin_step(one=THROWS, other=(2, 3, 1, 2)), ("turned", 2))

    def test_refused(self):
        for other in ODD + (list(THROWS), (1, 0), (0, True), (5, 0, 0, 0), (2,), "turned", (2, 1, 3, 2)):
            if not pattern_fits(other):
                self.unusable("other", kin_step, THROWS, other)
                self.unusable("other", kin_step, one=THROWS, other=other)
            elif not same(other, THROWS):
                self.equal(kin_step(THROWS, other), None)


if __name__ == "__main__":
    unittest.main()
