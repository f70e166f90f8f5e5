"""Tables of ranks, and their checker [8], [10], [36], [37], [38]."""

import unittest
from itertools import product

from tests.helpers import (LINES, ODD, THROWS, TWINS, Held, integer, patterns_by_orders, rank_by_throws, small_books,
                           some_books, some_patterns, stretch_fits, table_by_throws)
from throwshelves.bookpatterns import pattern_of
from throwshelves.columns import stretch_rank
from throwshelves.errors import InvalidPaper
from throwshelves.patterns import balls_of
from throwshelves.ranktables import is_rank_table, pattern_by, rank_by, table_by, table_of
from throwshelves.tablechecker import lets_table


def many_patterns():
    return [p for size in (1, 2, 3, 4, 5) for p in patterns_by_orders(size)] + some_patterns(21, (6, 9, 12, 20), each=3)


def first_fault(table):
    """The first entry of the list that applies to a table; None for one that holds."""
    size = len(table)
    faults = [("nought", start) for start in range(size) if table[start][0] != 0]
    faults += [("whole", start) for start in range(size) if table[start][size] != table[0][size]]
    for start in range(size):
        for length in range(1, size + 1):
            one, behind = table[start], table[(start + 1) % size]
            if one[length] - one[length - 1] not in (0, 1):
                faults.append(("ahead", (start, length)))
            if length > 1 and one[length] + behind[length - 2] > one[length - 1] + behind[length - 1]:
                faults.append(("square", (start, length)))
    return faults[0] if faults else None


def told_stretch(fault, size):
    word, at = fault
    return {"nought": (at, 0), "whole": (at, size)}.get(word, at)


class Tables(Held, unittest.TestCase):
    def test_of_patterns(self):
        for pattern in many_patterns():
            size, table = len(pattern), table_by(pattern)
            self.equal(table, table_by_throws(pattern))
            self.assertIs(is_rank_table(table), True)
            self.equal(pattern_by(table), pattern)
            self.equal(lets_table(table), balls_of(pattern))
            for start in range(size):
                for length in range(size + 1):
                    rank = rank_by(pattern, (start, length))
                    self.equal(rank, rank_by_throws(pattern, start, length))
                    self.assertLessEqual(rank, min(length, balls_of(pattern)))
                self.assertEqual(table[start][size], balls_of(pattern))

    def test_of_books(self):
        for book in small_books() + some_books(22, (5, 9, 20), each=1):
            size, table = book[1], table_of(book)
            self.equal(table, table_by(pattern_of(book)))
            self.equal(pattern_by(table), pattern_of(book))
            for start in range(0, size, 3):
                wanted = tuple(stretch_rank(book, (start, length)) for length in range(size + 1))
                self.equal(table[start], wanted)

    def test_one_place_and_ends(self):
        self.equal([table_by((0,)), table_by((1,)), table_of((2, 1, ())), table_of((2, 1, ((1,),)))],
                   [((0, 0),), ((0, 1),), ((0, 0),), ((0, 1),)])
        self.equal([pattern_by(((0, 0),)), pattern_by(((0, 1),))], [(0,), (1,)])
        self.equal(table_by((0, 0, 0)), ((0,) * 4,) * 3)
        self.equal(table_by((3, 3, 3)), ((0, 1, 2, 3),) * 3)
        self.equal(table_by((1, 1)), ((0, 1, 1), (0, 1, 1)))

    def test_the_throw_by_ranks(self):
        for pattern in many_patterns():
            size = len(pattern)
            for place in range(size):
                least = [t for t in range(size) if rank_by(pattern, (place, t + 1)) ==
                         rank_by(pattern, ((place + 1) % size, t))]
                self.assertEqual(pattern[place], least[0] if least else size)

    def test_rank_by_refuses(self):
        for thing in ODD + ((4, 0), (0, 5), (True, 1), (0, True), [0, 1], (0, 1, 2)):
            if not stretch_fits(4, thing):
                self.unusable("stretch", rank_by, THROWS, thing)


class Holding(Held, unittest.TestCase):
    """(G3): which tables hold."""

    def check(self, table, tables):
        fault = first_fault(table)
        self.assertIs(is_rank_table(table), fault is None)
        self.assertIs(table in tables, fault is None)
        if fault is None:
            self.equal(pattern_by(table), tables[table])
            self.equal(lets_table(table), balls_of(tables[table]))
            return
        self.invalid(*fault, lets_table, table)
        self.refused("Unheld", {"stretch": told_stretch(fault, len(table))}, pattern_by, table)

    def tables(self, size):
        return {table_by_throws(pattern): pattern for pattern in patterns_by_orders(size)}

    def test_one_place(self):
        tables = self.tables(1)
        for ranks in product(range(-2, 4), repeat=2):
            self.check((ranks,), tables)

    def test_two_places(self):
        tables = self.tables(2)
        for ranks in product(range(-1, 4), repeat=6):
            self.check((ranks[:3], ranks[3:]), tables)

    def test_three_places(self):
        tables = self.tables(3)
        rows = [(0, a, b, c) for a in (0, 1, 2) for b in (0, 1, 2) for c in (0, 1, 2, 3)]
        for one in rows[:18]:
            for other in rows:
                for third in rows[:24]:
                    self.check((one, other, third), tables)

    def test_four_places(self):
        # All tables that grow by 0 or 1: what is left to decide are whole and square.
        tables = self.tables(4)
        rows = []
        for steps in product((0, 1), repeat=4):
            rows.append(tuple(sum(steps[:k]) for k in range(5)))
        found = 0
        for table in product(rows, repeat=4):
            if len({row[4] for row in table}) == 1:
                found += is_rank_table(table)
                self.assertIs(is_rank_table(table), table in tables)
        self.assertEqual(found, len(tables))

    def test_spoiled_tables(self):
        for pattern in some_patterns(23, (4, 6, 12), each=2):
            tables = {table_by_throws(pattern): pattern}
            for start in range(len(pattern)):
                for length in range(len(pattern) + 1):
                    for more in (-1, 1):
                        table = [list(row) for row in table_by_throws(pattern)]
                        table[start][length] += more
                        spoiled = tuple(tuple(row) for row in table)
                        fault = first_fault(spoiled)
                        if fault is not None:
                            self.check(spoiled, tables)
                        else:
                            self.assertIs(is_rank_table(spoiled), True)
                            self.equal(table_by(pattern_by(spoiled)), spoiled)


class Checker(Held, unittest.TestCase):
    def test_shape(self):
        shapes = ((), None, 0, "0", [], [(0, 1)], ((0,),), ((0, 1), (0, 1)), ((0, 1, 2),), ([0, 1],), ((0, True),),
                  ((False, 0),), ((0, None),), ((0, "1"),), ((0, 0, 0), None), ((0, 0, 0), [0, 0, 0]), (0, 1), ((0, (1,)),))
        for thing in shapes + tuple(thing for thing in ODD if type(thing) is not tuple):
            self.invalid("shape", -1, lets_table, thing)
            self.unusable("table", pattern_by, thing)
            self.assertIs(is_rank_table(thing), False)

    def test_each_entry(self):
        for fault, table in (
                (("nought", 0), ((1, 1),)), (("nought", 0), ((-1, 0),)), (("nought", 1), ((0, 1, 1), (1, 1, 1))),
                (("whole", 1), ((0, 1, 1), (0, 1, 2))), (("whole", 2), ((0, 0, 0, 1), (0, 0, 0, 1), (0, 0, 0, 2))),
                (("ahead", (0, 1)), ((0, 2),)), (("ahead", (0, 1)), ((0, -1),)),
                (("ahead", (1, 2)), ((0, 0, 0), (0, 1, 0))), (("ahead", (0, 2)), ((0, 0, 2), (0, 1, 2))),
                (("square", (0, 2)), ((0, 0, 1), (0, 0, 1))), (("square", (1, 2)), ((0, 1, 1, 1), (0, 0, 1, 1), (0, 0, 0, 1))),
                (("square", (0, 3)), ((0, 1, 1, 2), (0, 1, 1, 2), (0, 1, 2, 2)))):
            self.invalid(*fault, lets_table, table)
            self.refused("Unheld", {"stretch": told_stretch(fault, len(table))}, pattern_by, table)

    def test_what_comes_first(self):
        self.invalid("shape", -1, lets_table, ((1, 2), (0, 5), (0, 7)))
        self.invalid("nought", 1, lets_table, ((0, 5, 1), (1, 1, 9)))
        self.invalid("nought", 0, lets_table, ((2, 5, 1), (1, 1, 9)))
        self.invalid("whole", 1, lets_table, ((0, 5, 1), (0, 1, 2)))
        self.invalid("ahead", (0, 2), lets_table, ((0, 0, 2), (0, 0, 2)))
        self.invalid("ahead", (0, 1), lets_table, ((0, -1, 1), (0, 0, 1)))
        self.invalid("square", (0, 2), lets_table, ((0, 0, 1, 1), (0, 0, 5, 1), (0, 0, 0, 1)))
        self.invalid("ahead", (0, 3), lets_table, ((0, 1, 1, 3), (0, 0, 0, 3), (0, 9, 9, 3)))

    def test_is_integer_wide(self):
        self.invalid("ahead", (0, 1), lets_table, ((0, 10 ** 59),))
        self.invalid("nought", 0, lets_table, ((-10 ** 59, 0),))
        self.assertTrue(integer(lets_table(thing=table_of(LINES))))

    def test_by_name(self):
        self.assertTrue(is_rank_table(thing=table_of(book=TWINS)))
        with self.assertRaises(InvalidPaper):
            lets_table(thing=None)


if __name__ == "__main__":
    unittest.main()
