"""Books of patterns, by bridges [43], [44], [47], with [9], [10], [26]."""

import random
import types
import unittest
from itertools import product

from tests.helpers import (LINES, ODD, PRIMES, THROWS, TWINS, Held, patterns_by_orders, same, small_books, some_books,
                           some_patterns)
from throwshelves.bookpatterns import pattern_of
from throwshelves.books import span_of
from throwshelves.bridges import book_of, bridge_count, bridge_plan, bridged, plan_book, plan_books, plan_pattern
from throwshelves.swaps import depth_of, swapped

PLAN = (("full", 0), ("rest", 1), ("bridge", 0))


def many_patterns():
    return [p for size in (1, 2, 3, 4, 5) for p in patterns_by_orders(size)] + some_patterns(44, (6, 9, 12, 20), each=4)


def throws_by_deeds(plan):
    """The pattern of a plan: the places are told by names, and each ball by the name of the shelf it lands at and by
    how many whole rounds it goes besides; None, if a deed cannot stand."""
    names, balls = [], {}
    for k, (word, place) in enumerate(plan):
        size = len(names)
        if word == "bridge":
            if size < 2 or place >= size:
                return None
            near, far = names[place], names[(place + 1) % size]
            lands = [throw_told(names, balls, name) for name in (near, far)]
            if place + lands[0] <= place + 1 + lands[1]:
                return None
            balls[near], balls[far] = balls[far], balls[near]
        else:
            if place > size:
                return None
            names.insert(place, k)
            balls[k] = (k, word == "full")
    return tuple(throw_told(names, balls, name) for name in names)


def throw_told(names, balls, name):
    """The throw of a shelf: to the next place with the name of its landing, which is itself only for 0 or the size."""
    target, full = balls[name]
    far = (names.index(target) - names.index(name)) % len(names)
    return len(names) if far == 0 and full else far


def matrix_by_deeds(plan, prime, digits):
    """The rows that a plan makes, as lists."""
    rows, size, digits = [], 0, list(digits)
    for word, place in plan:
        if word == "bridge":
            digit = digits.pop(0)
            for row in rows:
                row[(place + 1) % size] = (row[(place + 1) % size] + digit * row[place]) % prime
            continue
        for row in rows:
            row.insert(place, 0)
        size += 1
        if word == "full":
            rows.append([int(at == place) for at in range(size)])
    return size, tuple(tuple(row) for row in rows)


def some_plans(seed, many, longest):
    """Plans of deeds that can stand, the same ones at each run."""
    chance, plans = random.Random(seed), []
    for _ in range(many):
        plan = ()
        while len(plan) < longest:
            deed = (chance.choice(("rest", "full", "bridge", "bridge")), chance.randint(0, 5))
            if throws_by_deeds(plan + (deed,)) is not None and len([one for one in plan if one[0] != "bridge"]) < 6:
                plan += (deed,)
            elif chance.random() < 0.1:
                break
        if plan:
            plans.append(plan)
    return plans


class Bridged(Held, unittest.TestCase):
    def books(self):
        return [book for book in small_books() if book[1] > 1] + some_books(45, (5, 12, 20), each=1)

    def test_against_rows(self):
        for book in self.books():
            prime, size, rows = book
            for place in range(size):
                for digit in range(min(prime, 4)):
                    made = []
                    for row in rows:
                        row = list(row)
                        row[(place + 1) % size] = (row[(place + 1) % size] + digit * row[place]) % prime
                        made.append(tuple(row))
                    self.equal(bridged(book, place, digit), span_of(prime, size, tuple(made)))

    def test_back_again(self):
        for book in self.books():
            for place in range(book[1]):
                for digit in range(book[0]):
                    other = bridged(book, place, digit)
                    self.equal(bridged(other, place, -digit % book[0]), book)
                    if digit == 0:
                        self.equal(other, book)

    def test_the_patterns(self):
        for book in small_books() + some_books(46, (5, 7), each=1):
            prime, size, _ = book
            if size == 1:
                continue
            pattern = pattern_of(book)
            for place in range(size):
                behind = pattern[(place + 1) % size]
                others = [pattern_of(bridged(book, place, digit)) for digit in range(1, prime)]
                if pattern[place] > 1 + behind:
                    self.assertEqual(set(others), {swapped(pattern, place, place + 1)})
                    continue
                unlike = [other for other in others if other != pattern]
                self.assertLessEqual(len(unlike), 1)
                if unlike:
                    self.assertEqual(unlike[0], swapped(pattern, place, place + 1))

    def test_from_the_last_place_to_the_first(self):
        self.equal(bridged(TWINS, 3, 1), (2, 4, ((1, 0, 1, 1), (0, 1, 0, 1))))
        self.equal(bridged((5, 2, ((0, 1),)), 1, 3), (5, 2, ((1, 2),)))
        self.equal(bridged(book=LINES, place=3, digit=2), (7, 4, ((1, 0, 5, 3), (0, 1, 0, 6))))

    def test_one_place(self):
        for book in ((2, 1, ()), (2, 1, ((1,),)), (13, 1, ((1,),))):
            for digit in (0, 1, None, True, 13):
                self.unusable("place", bridged, book, 0, digit)

    def test_refused(self):
        for digit in (7, -1, True, None, 10 ** 59):
            self.unusable("digit", bridged, LINES, 0, digit)
            self.unusable("place", bridged, LINES, 4, digit)


class Plans(Held, unittest.TestCase):
    def test_patterns_of_plans(self):
        for plan in some_plans(47, 300, 14):
            self.equal(plan_pattern(plan), throws_by_deeds(plan))

    def test_all_short_plans(self):
        deeds = [(word, place) for word in ("rest", "full", "bridge") for place in range(4)]
        for many in (1, 2, 3, 4):
            for plan in product(deeds, repeat=many):
                throws = throws_by_deeds(plan)
                if throws is None:
                    self.unusable("plan", plan_pattern, plan)
                else:
                    self.equal(plan_pattern(plan), throws)

    def test_plans_of_patterns(self):
        for pattern in many_patterns():
            plan, balls = bridge_plan(pattern), sum(pattern) // len(pattern)
            self.assertIs(type(plan), tuple)
            self.equal(throws_by_deeds(plan), pattern)
            self.equal(plan_pattern(plan), pattern)
            bridges = len([deed for deed in plan if deed[0] == "bridge"])
            self.equal(bridge_count(pattern), bridges)
            self.assertEqual(bridges, balls * (len(pattern) - balls) - depth_of(pattern))

    def test_all_plans_have_as_many_bridges(self):
        for plan in some_plans(48, 300, 16):
            self.assertEqual(bridge_count(plan_pattern(plan)), len([deed for deed in plan if deed[0] == "bridge"]))

    def test_ends(self):
        self.equal([bridge_plan((1,)), bridge_plan((0,)), bridge_count((0,)), bridge_count((1,))],
                   [(("full", 0),), (("rest", 0),), 0, 0])
        self.equal([bridge_count((0, 0)), bridge_count((2, 2)), bridge_count((1, 1)), bridge_count((6,) * 12)], [0, 0, 1, 36])
        self.equal([plan_pattern((("rest", 0),)), plan_pattern(plan=(("full", 0), ("full", 1)))], [(0,), (2, 2)])
        self.equal([plan_pattern((("full", 0), ("full", 0), ("rest", 0))), plan_pattern((("full", 0), ("rest", 0)))],
                   [(0, 3, 3), (0, 2)])
        # A bridge from the last place to the first.
        self.equal(plan_pattern((("rest", 0), ("full", 1), ("bridge", 1))), (1, 1))

    def test_what_is_no_plan(self):
        for plan in ODD + ((), ("rest", 0), (("rest", 1),), (("full", True),), (("rest", 0), None), (["rest", 0],),
                           (("rest", 0, 0),), (("bridge", 0),), (("full", 0), ("bridge", 0)), (("turn", 0),),
                           (("full", -1),), (("full", 0), ("rest", 1), ("bridge", 1)), PLAN + (("bridge", 0),),
                           (("full", 0), ("rest", 1), ("bridge", 2)), (("rest", "0"),), list(PLAN), (("rest", 0), ())):
            self.unusable("plan", plan_pattern, plan)
            self.unusable("plan", plan_book, plan, 4, None)
            made = plan_books(plan, 4)
            self.assertIsInstance(made, types.GeneratorType)
            self.unusable("plan", next, made)


class Books(Held, unittest.TestCase):
    def test_against_rows(self):
        chance = random.Random(49)
        for plan in some_plans(50, 150, 12) + [bridge_plan(p) for p in some_patterns(51, (6, 12, 20), each=2)]:
            bridges = len([deed for deed in plan if deed[0] == "bridge"])
            for prime in PRIMES:
                digits = tuple(chance.randint(1, prime - 1) for _ in range(bridges))
                book = plan_book(plan, prime, digits)
                size, rows = matrix_by_deeds(plan, prime, digits)
                self.equal(book, span_of(prime, size, rows))
                self.assertEqual(pattern_of(book), throws_by_deeds(plan))

    def test_all_of_a_plan(self):
        for plan in some_plans(52, 60, 9):
            bridges = len([deed for deed in plan if deed[0] == "bridge"])
            for prime in (2, 3, 5):
                if (prime - 1) ** bridges > 300:
                    continue
                books = list(plan_books(plan, prime))
                self.equal(books, [plan_book(plan, prime, digits)
                                   for digits in product(range(1, prime), repeat=bridges)])
                self.assertEqual(len(set(books)), (prime - 1) ** bridges)
                self.assertEqual({pattern_of(book) for book in books}, {plan_pattern(plan)})

    def test_the_generator(self):
        made = plan_books(prime=13, plan=PLAN)
        self.assertIsInstance(made, types.GeneratorType)
        self.equal(list(made), [(13, 2, ((1, digit),)) for digit in range(1, 13)])
        self.equal(list(plan_books((("rest", 0),), 2)), [(2, 1, ())])
        self.equal(list(plan_books((("full", 0),), 13)), [(13, 1, ((1,),))])
        self.equal(len(list(plan_books(bridge_plan((5, 5, 5, 5, 5, 5, 5, 5)), 2))), 1)
        self.unusable("prime", next, plan_books(PLAN, 4))
        self.unusable("prime", next, plan_books(PLAN, True))

    def test_book_of(self):
        for pattern in many_patterns():
            for prime in PRIMES if len(pattern) < 5 else (2, 13):
                book = book_of(pattern, prime)
                self.assertEqual(book[:2], (prime, len(pattern)))
                self.equal(pattern_of(book), pattern)
        self.equal(book_of(prime=2, pattern=THROWS), TWINS)

    def test_digits_refused(self):
        for digits in ODD + ((1, 1), (0,), (5,), (True,), [1], 1, (1, None), (-1,)):
            if not same(digits, (1,)):
                self.unusable("digits", plan_book, PLAN, 5, digits)
                self.unusable("prime", plan_book, PLAN, 6, digits)
        for digits in ((1,), None, (0,)):
            self.unusable("digits", plan_book, (("full", 0),), 5, digits)
        self.equal(plan_book(digits=(), prime=5, plan=(("full", 0),)), (5, 1, ((1,),)))


if __name__ == "__main__":
    unittest.main()
