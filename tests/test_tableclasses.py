"""Tables as objects [42], with [36], [38], [39]."""

import inspect
import unittest

from tests.helpers import (LINES, ODD, THROWS, TWINS, Held, fields_of, patterns_by_orders, same, small_books,
                           some_patterns, stretch_fits, table_by_throws)
from throwshelves import errors, tableclasses
from throwshelves.bookpatterns import pattern_of
from throwshelves.patternclasses import Pattern
from throwshelves.stretches import free_stretches, full_stretches
from throwshelves.tablechecker import lets_table
from throwshelves.tableclasses import Table

METHODS = ("__init__", "__getitem__", "__contains__", "__len__", "__iter__", "__eq__", "free", "full", "of", "table_now",
           "pattern_now", "balls_now")


def many_patterns():
    return [p for size in (1, 2, 3, 4) for p in patterns_by_orders(size)] + some_patterns(42, (6, 12), each=4)


class Tables(Held, unittest.TestCase):
    def test_methods_stand_in_the_class(self):
        for name in METHODS:
            self.assertIn(name, vars(Table))
        self.assertIsInstance(inspect.getattr_static(Table, "of"), classmethod)
        for name in METHODS[-3:]:
            self.assertIsInstance(inspect.getattr_static(Table, name), property)
        self.assertEqual(Table.__module__, tableclasses.__name__)

    def test_properties_and_items(self):
        for pattern in many_patterns():
            size, table = len(pattern), table_by_throws(pattern)
            one = Table(table)
            self.equal([one.table_now, one.pattern_now, one.balls_now], [table, pattern, sum(pattern) // size])
            self.equal([len(one), list(one)], [size, list(table)])
            self.equal([one.free(), one.full()], [free_stretches(pattern), full_stretches(pattern)])
            for start in range(size):
                for length in range(size + 1):
                    self.equal(one[(start, length)], table[start][length])
                    self.assertIs((start, length) in one, table[start][length] == length)

    def test_iterated_twice_at_once(self):
        one, other = Table(table_by_throws(THROWS)), Table(table_by_throws((0, 2)))
        rows = list(one)
        self.assertEqual([(a, b) for a in one for b in one], [(a, b) for a in rows for b in rows])
        self.assertEqual([(a, b) for a in one for b in other], [(a, b) for a in rows for b in list(other)])

    def test_items_refuse(self):
        one = Table(table_by_throws(THROWS))
        for thing in ODD + ((4, 0), (0, 5), (0, -1), (True, 1), (0, True), [0, 1], (0, 1, 2), (0,), one):
            if not stretch_fits(4, thing):
                self.unusable("stretch", lambda at: one[at], thing)
                self.assertIs(thing in one, False)
        for at in (0, 1, -1, slice(None)):
            self.unusable("stretch", lambda at: one[at], at)

    def test_equal(self):
        one = Table(table_by_throws(THROWS))
        self.assertIs(one == Table.of(TWINS), True)
        self.assertIs(one != Table.of(TWINS), False)
        for other in ODD + (one.table_now, list(one.table_now), Table.of(LINES), Table(((0, 1),)), Pattern(*THROWS)):
            self.assertIs(one == other, False)
            self.assertIs(other == one, False)
            self.assertIs(one != other, True)

    def test_made_refuses(self):
        held = table_by_throws(THROWS)
        for thing in ODD + (held[:3], list(held), ((True, 1),), ((0, 2),), ((1, 1),), ((0, 0, 1), (0, 0, 1)),
                            ((0, 1, 2), (0, 1, 1)), ((0, 1, 1, 2), (0, 1, 1, 2), (0, 1, 2, 2)), Table(held)):
            if same(thing, ((0, 1),)):
                continue
            with self.assertRaises(errors.InvalidPaper) as wanted:
                lets_table(thing)
            name, fields = fields_of(wanted.exception)
            self.refused(name, fields, Table, thing)
            self.refused(name, fields, Table, table=thing)

    def test_of(self):
        for book in small_books():
            one = Table.of(book)
            self.assertIs(type(one), Table)
            self.equal(one.pattern_now, pattern_of(book))
        self.assertTrue(Table.of(book=LINES) == Table(table=table_by_throws((2, 2, 2, 2))))
        for thing in ODD + ((2, 2, ((0, 0),)), (4, 2, ()), (2, 2, ((0, 1), (1, 0))), Table.of(TWINS), THROWS):
            if not same(thing, (2, 4, ())):
                self.unusable("book", Table.of, thing)

    def test_it_never_changes(self):
        one = Table.of(TWINS)
        for _ in range(2):
            self.equal([one.free(), one.full(), one.table_now, list(one)],
                       [free_stretches(THROWS), full_stretches(THROWS), table_by_throws(THROWS),
                        list(table_by_throws(THROWS))])


if __name__ == "__main__":
    unittest.main()
