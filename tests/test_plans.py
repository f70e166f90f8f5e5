"""The checker of plans, and plans as objects [45], [46], with [43], [44]."""

import inspect
import unittest
from itertools import product

from tests.helpers import ODD, THROWS, Held, patterns_by_orders, same, some_patterns
from tests.test_bridges import PLAN, some_plans, throws_by_deeds
from throwshelves import errors, planclasses
from throwshelves.bridges import bridge_count, bridge_plan, plan_book
from throwshelves.patternclasses import Pattern
from throwshelves.planchecker import lets_plan
from throwshelves.planclasses import Plan

METHODS = ("__init__", "__add__", "__call__", "__contains__", "__len__", "__iter__", "__eq__", "can_add", "of",
           "deeds_now", "throws_now", "bridges_now")
DEEDS = tuple((word, place) for word in ("rest", "full", "bridge") for place in range(4))
NO_DEEDS = ODD + (("rest",), ("rest", 0, 0), ["rest", 0], ("rest", -1), ("rest", True), ("rest", "0"), ("rest", None),
                  ("turn", 0), (None, 0), (0, 0), (("rest", 0), 0), ("rest", (0,)), ("", 0), ("restfull", 0), "rest")


def many_patterns():
    return [p for size in (1, 2, 3, 4) for p in patterns_by_orders(size)] + some_patterns(53, (6, 12), each=4)


class Checker(Held, unittest.TestCase):
    def test_plans_of_the_program(self):
        for pattern in many_patterns():
            self.equal(lets_plan(pattern, bridge_plan(pattern)), bridge_count(pattern))
        self.equal(lets_plan(thing=PLAN, pattern=(1, 1)), 1)

    def test_other_plans(self):
        for plan in some_plans(54, 200, 14):
            bridges = len([deed for deed in plan if deed[0] == "bridge"])
            self.equal(lets_plan(throws_by_deeds(plan), plan), bridges)

    def test_shape(self):
        for thing in ODD + (list(PLAN), "full", Plan(*PLAN)):
            if type(thing) is not tuple:
                self.invalid("shape", -1, lets_plan, THROWS, thing)

    def test_deed(self):
        for thing in NO_DEEDS:
            self.invalid("deed", 0, lets_plan, (1, 1), (thing,))
            self.invalid("deed", 2, lets_plan, (1, 1), PLAN[:2] + (thing,))
            self.invalid("deed", 1, lets_plan, (1, 1), PLAN[:1] + (thing, None, ("bridge", 9)))

    def test_place(self):
        for plan in product(DEEDS, repeat=3):
            standing = [throws_by_deeds(plan[:k + 1]) is not None for k in range(3)]
            if not all(standing):
                self.invalid("place", standing.index(False), lets_plan, THROWS, plan)
                self.invalid("place", standing.index(False), lets_plan, THROWS, plan + (None,))
        for deed in (("rest", 1), ("full", 1), ("bridge", 0), ("rest", 10 ** 59)):
            self.invalid("place", 0, lets_plan, (1,), (deed,))
        for deed in (("bridge", 1), ("bridge", 2), ("rest", 3), ("full", 3), ("bridge", 10 ** 59)):
            self.invalid("place", 2, lets_plan, (1, 1), PLAN[:2] + (deed,))
        # A bridge on two shelves that rest, and one that was made already.
        self.invalid("place", 2, lets_plan, (0, 0), (("rest", 0), ("rest", 0), ("bridge", 0)))
        self.invalid("place", 3, lets_plan, (1, 1), PLAN + (("bridge", 0),))

    def test_pattern(self):
        for pattern in ((1,), (0,), (1, 1), THROWS):
            self.invalid("pattern", -1, lets_plan, pattern, ())
        for pattern in ((2, 0), (0, 2), (1, 1, 1), (0,)):
            self.invalid("pattern", -1, lets_plan, pattern, PLAN)
        self.invalid("pattern", -1, lets_plan, (1, 1), PLAN[:2])

    def test_long_plans(self):
        self.equal(lets_plan((0,) * 300, tuple(("rest", 0) for _ in range(300))), 0)
        self.invalid("place", 300, lets_plan, (0,) * 300, tuple(("rest", 0) for _ in range(300)) + (("bridge", 7),))


class Plans(Held, unittest.TestCase):
    def test_methods_stand_in_the_class(self):
        for name in METHODS:
            self.assertIn(name, vars(Plan))
        self.assertIsInstance(inspect.getattr_static(Plan, "of"), classmethod)
        for name in METHODS[-3:]:
            self.assertIsInstance(inspect.getattr_static(Plan, name), property)
        self.assertEqual(Plan.__module__, planclasses.__name__)

    def test_properties_and_items(self):
        for plan in some_plans(55, 80, 12):
            one = Plan(*plan)
            bridges = len([deed for deed in plan if deed[0] == "bridge"])
            self.equal([one.deeds_now, one.throws_now, one.bridges_now], [plan, throws_by_deeds(plan), bridges])
            self.equal([len(one), list(one)], [len(plan), list(plan)])
            for deed in DEEDS:
                self.assertIs(deed in one, deed in plan)
                self.assertIs(list(deed) in one, False)
            for prime in (2, 13):
                digits = (prime - 1,) * bridges
                self.equal(one(prime, digits), plan_book(plan, prime, digits))
                self.equal(one(digits=digits, prime=prime), one(prime, digits))

    def test_what_is_in_it(self):
        one = Plan(("rest", 0), ("rest", 1))
        for thing in NO_DEEDS + (("rest", False), ("rest", True), ("full", 0), ("rest", 2), one):
            self.assertIs(thing in one, False)
        self.assertIs(("rest", 1) in one, True)

    def test_iterated_twice_at_once(self):
        one, other = Plan(*PLAN), Plan.of(THROWS)
        self.assertEqual([(a, b) for a in one for b in one], [(a, b) for a in PLAN for b in PLAN])
        self.assertEqual([(a, b) for a in one for b in other], [(a, b) for a in PLAN for b in other.deeds_now])

    def test_made_refuses(self):
        self.refused("NotUsable", {"word": "deeds", "at": 0}, Plan)
        for thing in NO_DEEDS + (("rest", 3), ("full", 10 ** 59), ("bridge", 1), ("bridge", 2), PLAN):
            self.refused("NotUsable", {"word": "deeds", "at": 2}, Plan, PLAN[0], PLAN[1], thing, None)
        for thing in NO_DEEDS + (("rest", 1), ("full", 1), ("bridge", 0), PLAN, Plan(*PLAN)):
            self.refused("NotUsable", {"word": "deeds", "at": 0}, Plan, thing)
            self.refused("NotUsable", {"word": "deeds", "at": 0}, Plan, thing, ("bridge", 9), None)

    def test_a_deed_more(self):
        for plan in some_plans(56, 60, 8):
            one = Plan(*plan)
            for deed in DEEDS + (("bridge", 4), ("rest", 6), ("full", 7)):
                stands = throws_by_deeds(plan + (deed,)) is not None
                self.assertIs(one.can_add(deed), stands)
                self.assertIs(one.can_add(deed=deed), stands)
                if not stands:
                    self.unusable("deed", lambda other: one + other, deed)
                    continue
                more = one + deed
                self.assertIs(type(more), Plan)
                self.equal([more.deeds_now, more.throws_now], [plan + (deed,), throws_by_deeds(plan + (deed,))])
            self.equal(one.deeds_now, plan)

    def test_a_deed_more_refuses(self):
        one = Plan(*PLAN)
        for thing in NO_DEEDS + (PLAN, Plan(("rest", 0)), errors.NotUsable("deed", -1)):
            self.assertIs(one.can_add(thing), False)
            self.unusable("deed", lambda other: one + other, thing)

    def test_called_refuses(self):
        one = Plan(*PLAN)
        for prime in (True, None, 4, 17, "2"):
            self.unusable("prime", one, prime, None)
        for digits in ODD + ((1, 1), (0,), (3,), (True,), [1]):
            if not same(digits, (1,)) and not same(digits, (2,)):
                self.unusable("digits", one, 3, digits)

    def test_equal(self):
        one = Plan(*PLAN)
        self.assertIs(one == Plan(*PLAN), True)
        self.assertIs(one != Plan(*PLAN), False)
        for other in ODD + (PLAN, list(PLAN), Plan(*PLAN[:2]), Plan(("rest", 0), ("full", 1), ("bridge", 1)),
                            Pattern(1, 1)):
            self.assertIs(one == other, False)
            self.assertIs(other == one, False)
            self.assertIs(one != other, True)

    def test_of(self):
        for pattern in many_patterns():
            one = Plan.of(pattern)
            self.assertIs(type(one), Plan)
            self.equal([one.throws_now, one.deeds_now, one.bridges_now],
                       [pattern, bridge_plan(pattern), bridge_count(pattern)])
        self.assertTrue(Plan.of(pattern=(1,)) == Plan(("full", 0)))
        for thing in ODD + ((1, 0), (2,), (-1,), list(THROWS), Pattern(*THROWS), (1, True)):
            if not (type(thing) is tuple and thing and same(thing, (0,) * len(thing))):
                self.unusable("pattern", Plan.of, thing)


if __name__ == "__main__":
    unittest.main()
