"""Each function: its parameters by position and by name, and what it refuses, the first parameter first."""

import copy
import types
import unittest

from tests.helpers import (LINES, ODD, THROWS, TWINS, Held, book_fits, factors_fit, integer, number, pattern_fits,
                           places_fit, prime_fits, same, size_fits, stretch_fits, word_fits)
from throwshelves import (bookpatterns, bookreadings, books, bookshelves, booktexts, bridges, bursts, cappapers, caps,
                          columns, countchecker, countpapers, counts, duals, eventreadings, eventtexts, intervals, joins,
                          likebooks, likechecker, listings, liveevents, losses, menders, order, orderpapers,
                          papercheckers, patterncounts, patternlines, patternpapers, patterns, planchecker, ranktables,
                          replaying, shelves, stretches, swaps, symmetries, turns, wishchecker, wishes, wishpapers)
from throwshelves.errors import InvalidPaper

TABLE = ((0, 1, 1, 2, 2), (0, 1, 2, 2, 2), (0, 1, 2, 2, 2), (0, 1, 2, 2, 2))


def is_row(thing):
    return word_fits(2, 4, thing)


def are_rows(thing):
    return type(thing) is tuple and all(is_row(word) for word in thing)


def is_other(thing):
    """Whether it is one of the few values here that are books modulo 2 of four places."""
    return any(same(thing, book) for book in (TWINS, (2, 4, ()), (2, 4, ((1, 0, 0, 0),))))


def are_columns(thing):
    if type(thing) is not tuple or not thing or not all(type(column) is tuple for column in thing):
        return False
    if len({len(column) for column in thing}) > 1:
        return False
    return all(number(digit) and digit < 2 for column in thing for digit in column)


def is_table(thing):
    if type(thing) is not tuple or not thing or not all(type(ranks) is tuple for ranks in thing):
        return False
    return all(len(ranks) == len(thing) + 1 and all(integer(rank) for rank in ranks) for ranks in thing)


def is_place(thing):
    return number(thing) and thing < 4


def is_later(thing):
    return integer(thing) and 0 < thing < 4


def is_text(thing):
    return type(thing) is str


def is_two(thing):
    """Whether it is a digit of 2."""
    return number(thing) and thing < 2


def is_plan(thing):
    """Whether it is one of the few values here that are plans."""
    return any(same(thing, plan) for plan in (PLAN, (("full", 0),)))


def are_bounds(thing):
    """Whether it is one of the few values here that are bounds."""
    return same(thing, ((0, 1),)) or same(thing, WISH)


def are_caps(thing):
    """Whether it is one of the few values here that are caps of four places."""
    return same(thing, ()) or same(thing, CAPS)


PLAN = (("full", 0), ("rest", 1), ("bridge", 0))
WISH = ((0, 4), (1, 2), (2, 2), (0, 3))
CAPS = (((0, 2), 1), ((3, 4), 3))
PRIME = ("prime", 2, prime_fits, (17, 4, -2, "2", [2]))
SIZE = ("size", 4, size_fits, (0, -4, "4", (4,)))
PLACE = ("place", 3, is_place, (4, -1, "3", (3,), [3]))
PLACES = ("places", (0, 2), lambda thing: places_fit(4, thing), ((2, 0), (0, 0), (0, 4), [0, 2], 0, (0, True)))
STRETCH = ("stretch", (3, 2), lambda thing: stretch_fits(4, thing), ((4, 0), (0, 5), (0, -1), [3, 2], (3, 2, 0), (3,)))
OTHER = ("other", (2, 4, ((1, 0, 0, 0),)), is_other,
         (LINES, (2, 3, ()), (3, 4, ()), [2, 4, ()], (2, 4, ((0, 0, 0, 0),)), (2, 4, ((True, 0, 0, 0),)), (2, 4)))
WORD = ("word", (1, 1, 1, 0), is_row, ((1, 1, 1), (1, 1, 1, 2), [1, 1, 1, 0], (1, 1, 1, False), (1, 1, 1, 0, 0)))
BALLS = ("balls", 2, number, (-1, "2", (2,)))
RANK = ("rank", 2, lambda thing: number(thing) and thing <= 4, (5, -1, "2", (2,)))
DEEDS = ("plan", PLAN, is_plan, (PLAN + (("bridge", 0),), list(PLAN), (("rest", True),), (("rest", 1),), (("bridge", 0),)))
BOUNDS = ("bounds", WISH, are_bounds, (((0, 4), (1, 2), (2, 2), (3, 0)), list(WISH), ((0, True),), ((0, 2),), ((0,),)))
LET = ("balls", 2, lambda thing: number(thing) and thing <= 4, (5, -1, "2"))
SOME_CAPS = ("caps", CAPS, are_caps, ((((0, 5), 1),), (((0, 2), -1),), (((0, 2), True),), list(CAPS), (((4, 0), 1),)))
K = ("k", -10 ** 59, integer, ("1", (1,)))
GAP = ("place", 4, lambda thing: number(thing) and thing <= 4, (5, -1, "0"))
FACTORS = ("digits", (1, 1, 1, 1), lambda thing: factors_fit(2, 4, thing),
           ((1, 1, 1, 0), (1, 1, 1), (1, 1, 1, 2), (1, 1, 1, True), [1, 1, 1, 1]))
THAT = ("other", (2, 2, 2, 2), lambda thing: pattern_fits(thing) and len(thing) == 4 and sum(thing) == 8,
        ((1, 1, 1, 1), (2, 1, 3, 2), (2, 2), [2, 2, 2, 2], (4, 4, False, 0), (2,) * 5))
ANY_PATTERN = ("other", (1, 1), pattern_fits, ((1, 0), [1, 1], (3, 0), (True, 1), TWINS))
EVENT = ("event", ("turn", -1), lambda thing: same(thing, ("turn", -1)), (("turn", True), ["turn", 1], ("mend", -1), ("turn",)))
LOG = ("log", (("ring", TWINS), ("turn", -1)), lambda thing: False,
       ([("ring", TWINS)], ("ring", TWINS), (("ring", TWINS), ("turn", True)), (("ring", (2, 4, [])),)))
BOOK = ("book", TWINS)
PATTERN = ("pattern", THROWS)
ONE_BOOK = ("one", TWINS)
ONE = ("one", THROWS)

# The function, its parameter that is handed in as such, and all others: name, a value that stands, what stands,
# and values ahead of those in ODD that do not stand.
SPECS = (
    (books.span_of, None, (PRIME, SIZE, ("words", ((1, 1, 0, 1),), are_rows,
                                         ((1, 1, 0, 1), [(1, 1, 0, 1)], ((1, 1, 0),), ((1, 1, 0, 2),), ([1, 1, 0, 1],),
                                          ((1, 1, 0, 1), (True, 0, 0, 0)))))),
    (books.rank_of, BOOK, ()),
    (books.has_word, BOOK, (WORD,)),
    (books.words_of, BOOK, ()),
    (books.is_part, BOOK, (OTHER,)),
    (books.together, BOOK, (OTHER,)),
    (books.common, BOOK, (OTHER,)),
    (books.checks_of, BOOK, ()),
    (columns.column_of, BOOK, (PLACE,)),
    (columns.columns_of, BOOK, ()),
    (columns.from_columns, None, (PRIME, ("columns", ((1, 0), (0, 1)), are_columns,
                                          (((1, 0), (0,)), ((1, 2),), ((True,),), [(1, 0)], ((1, 0), [0, 1]))))),
    (columns.rank_on, BOOK, (PLACES,)),
    (columns.stretch_rank, BOOK, (STRETCH,)),
    (columns.spans, BOOK, (PLACES, PLACE)),
    (booktexts.book_line, BOOK, ()),
    (booktexts.word_line, None, (("word", (1, 0, 12), lambda thing: type(thing) is tuple and thing != () and
                                  all(number(one) for one in thing), ((), [1], (1, -1), (1, True), (1, "1"))),)),
    (bookreadings.read_book, None, (("text", "book 2 4 1,1,0,1", is_text, (2, ("book 2 4",))),)),
    (bookreadings.read_word, None, (("text", "word 1 2", is_text, (2, ("word 2",))),)),
    (patterns.balls_of, PATTERN, ()),
    (patterns.landings_of, PATTERN, ()),
    (patterns.lands_at, PATTERN, (PLACE,)),
    (patterns.thrown_from, PATTERN, (PLACE,)),
    (patterns.crossing, PATTERN, (PLACE,)),
    (patterns.states_of, PATTERN, ()),
    (patterns.rounds_of, PATTERN, ()),
    (patterns.ball_paths, PATTERN, ()),
    (swaps.can_swap, PATTERN, (("i", 0, is_place, (4, -1)), ("j", 1, is_later, (0, 4, 5, -1)))),
    (swaps.swapped, PATTERN, (("i", 0, is_place, (4, -1)), ("j", 1, lambda thing: integer(thing) and thing == 1,
                                                            (0, 2, 3, 4, 5, -1)))),
    (swaps.lowering_swaps, PATTERN, ()),
    (swaps.raising_swaps, PATTERN, ()),
    (swaps.depth_of, PATTERN, ()),
    (patterncounts.pattern_count, None, (SIZE, BALLS)),
    (patterncounts.patterns_of, None, (SIZE, BALLS)),
    (patterncounts.level_pattern, None, (SIZE, ("balls", 2, lambda thing: number(thing) and thing <= 4, (5, -1)))),
    (patternlines.pattern_line, PATTERN, ()),
    (patternlines.pattern_read, None, (("text", "throws 1 2 2 3", is_text, (2, ("throws 1",))),)),
    (bookpatterns.pattern_of, BOOK, ()),
    (bookpatterns.throw_at, BOOK, (PLACE,)),
    (bookpatterns.back_throw, BOOK, (PLACE,)),
    (bookpatterns.mend_digits, BOOK, (PLACE,)),
    (bookpatterns.keep_word, BOOK, (PLACE,)),
    (ranktables.table_of, BOOK, ()),
    (ranktables.table_by, PATTERN, ()),
    (ranktables.rank_by, PATTERN, (STRETCH,)),
    (ranktables.pattern_by, None, (("table", TABLE, is_table, ((), ((0, 1), (0, 1)), ((0, True),), [(0, 1)])),)),
    (stretches.free_stretches, PATTERN, ()),
    (stretches.full_stretches, PATTERN, ()),
    (patternpapers.pattern_paper, BOOK, ()),
    (bridges.bridged, BOOK, (PLACE, ("digit", 1, is_two, (2, -1, "1", (1,))))),
    (bridges.bridge_count, PATTERN, ()),
    (bridges.bridge_plan, PATTERN, ()),
    (bridges.plan_pattern, None, (DEEDS,)),
    (bridges.plan_book, None, (DEEDS, PRIME, ("digits", (1,), lambda thing: same(thing, (1,)),
                                              ((0,), (2,), (True,), [1], (), (1, 1))))),
    (bridges.plan_books, None, (DEEDS, PRIME)),
    (bridges.book_of, PATTERN, (PRIME,)),
    (counts.count_polynomial, PATTERN, ()),
    (counts.book_count, PATTERN, (PRIME,)),
    (counts.least_count, PATTERN, (PRIME,)),
    (counts.total_count, None, (SIZE, RANK, PRIME)),
    (listings.all_books, None, (SIZE, RANK, PRIME)),
    (listings.books_of, PATTERN, (PRIME,)),
    (listings.counts_of, None, (SIZE, RANK, PRIME)),
    (countpapers.count_paper, PATTERN, ()),
    (bursts.mends_burst, PATTERN, (STRETCH,)),
    (bursts.most_burst, PATTERN, ()),
    (bursts.most_window, PATTERN, ()),
    (bursts.open_rank, PATTERN, (STRETCH,)),
    (losses.filled, BOOK, (("digits", (1, None, None, 1), lambda thing: same(thing, (1, None, None, 1)),
                            ((1, None, 1, None), (1, None, None, 2), (True, None, None, 1), (1, 1, 1), [1, 1, 1, 0])),)),
    (losses.open_words, BOOK, (STRETCH,)),
    (losses.holds_any, BOOK, (STRETCH,)),
    (menders.next_ones, PATTERN, (PLACE,)),
    (menders.ones_before, PATTERN, (PLACE,)),
    (menders.chain_of, PATTERN, (PLACE,)),
    (wishes.balls_let, None, (BOUNDS,)),
    (wishes.is_within, PATTERN, (BOUNDS,)),
    (wishes.pattern_within, None, (BOUNDS, LET)),
    (wishes.book_within, None, (BOUNDS, LET, PRIME)),
    (wishpapers.wish_paper, None, (BOUNDS, LET)),
    (caps.most_rank, None, (SIZE, SOME_CAPS)),
    (caps.keeps_caps, PATTERN, (SOME_CAPS,)),
    (caps.lot_under, None, (SIZE, SOME_CAPS, RANK)),
    (caps.book_under, None, (SIZE, SOME_CAPS, RANK, PRIME)),
    (cappapers.cap_paper, None, (SIZE, SOME_CAPS, RANK)),
    (duals.checks_pattern, PATTERN, ()),
    (turns.turned_pattern, PATTERN, (K,)),
    (turns.turned_book, BOOK, (K,)),
    (turns.mirrored_pattern, PATTERN, ()),
    (turns.mirrored_book, BOOK, ()),
    (turns.scaled_book, BOOK, (FACTORS,)),
    (joins.joined_patterns, ONE, (ANY_PATTERN,)),
    (joins.joined_books, ONE_BOOK, (("other", (2, 1, ((1,),)), lambda thing: book_fits(thing) and thing[0] == 2,
                                     (LINES, (3, 4, ()), [2, 1, ()], (2, 1, ((True,),)), THROWS)),)),
    (joins.split_at, PATTERN, (("place", 2, lambda thing: integer(thing) and 1 <= thing < 4, (0, 4, -1, "1")),)),
    (shelves.with_rest, PATTERN, (GAP,)),
    (shelves.with_full, PATTERN, (GAP,)),
    (shelves.doubled, PATTERN, (PLACE,)),
    (shelves.without, PATTERN, (("place", 0) + PLACE[2:],)),
    (bookshelves.book_with_rest, BOOK, (GAP,)),
    (bookshelves.book_with_full, BOOK, (GAP,)),
    (bookshelves.book_doubled, BOOK, (PLACE,)),
    (bookshelves.book_without, BOOK, (("place", 0) + PLACE[2:],)),
    (symmetries.turns_of, PATTERN, ()),
    (symmetries.kin_of, PATTERN, ()),
    (symmetries.least_kin, PATTERN, ()),
    (symmetries.kin_step, ONE, (ANY_PATTERN,)),
    (likebooks.scaling_of, ONE_BOOK, (OTHER,)),
    (likebooks.like_paper, ONE_BOOK, (OTHER,)),
    (order.lies_below, ONE, (THAT,)),
    (order.barring_stretch, ONE, (THAT,)),
    (order.chain_to, ONE, (THAT,)),
    (order.covers_of, PATTERN, ()),
    (order.covered_by, PATTERN, ()),
    (order.lowest_of, None, (SIZE, LET)),
    (intervals.between, ONE, (THAT,)),
    (intervals.greatest_below, ONE, (THAT,)),
    (intervals.least_above, ONE, (THAT,)),
    (intervals.how_many_below, PATTERN, ()),
    (intervals.how_many_above, PATTERN, ()),
    (intervals.chain_count, ONE, (THAT,)),
    (orderpapers.order_paper, ONE, (THAT,)),
    (eventtexts.event_line, None, (EVENT,)),
    (eventtexts.log_lines, None, (LOG,)),
    (eventreadings.read_event, None, (("text", "turn -1", is_text, (2, ("turn 1",))),)),
    (eventreadings.read_log, None, (("lines", ["book 2 4", "turn -1"], lambda thing: same(thing, []),
                                     ("book 2 4", ("book 2 4",), ["book 2 4\n"], ["book 2 4", None])),)),
    (replaying.replayed, None, (LOG,)),
)

GENERATORS = (books.words_of, patterncounts.patterns_of, bridges.plan_books, listings.all_books, listings.books_of)


def as_told(call):
    """The function, or for a generator one that asks for its first result, when it raises its errors."""
    if call not in GENERATORS:
        return call

    def asked(*args, **named):
        made = call(*args, **named)
        assert isinstance(made, types.GeneratorType)
        return next(made)
    return asked


def barred(values, fits):
    return [value for value in values + ODD if not fits(value)]


class Refusals(Held, unittest.TestCase):
    def test_by_position_and_by_name(self):
        for call, handed, parameters in SPECS:
            with self.subTest(call=call.__name__):
                pairs = ([] if handed is None else [handed]) + [(name, value) for name, value, _, _ in parameters]
                told = as_told(call)
                once = told(*[value for _, value in pairs])
                if call is replaying.replayed:
                    self.assertTrue(told(**dict(pairs)) == once)
                    continue
                self.equal(told(**dict(pairs)), once)
                self.equal(told(**dict(reversed(pairs))), once)
                if len(pairs) > 1:
                    self.equal(told(pairs[0][1], **dict(pairs[1:])), once)

    def test_each_parameter(self):
        for call, handed, parameters in SPECS:
            given = {} if handed is None else dict([handed])
            for name, _, fits, values in parameters:
                for value in barred(values, fits):
                    with self.subTest(call=call.__name__, name=name, value=repr(value)[:60]):
                        named = given | {other: good for other, good, _, _ in parameters} | {name: value}
                        kept = copy.deepcopy(value)
                        self.unusable(name, as_told(call), **named)
                        self.assertTrue(same(kept, value))

    def test_the_first_of_several(self):
        for call, handed, parameters in SPECS:
            given = [] if handed is None else [handed[1]]
            for first in range(len(parameters)):
                for value in barred(parameters[first][3], parameters[first][2]):
                    with self.subTest(call=call.__name__, first=parameters[first][0], value=repr(value)[:60]):
                        args = [good for _, good, _, _ in parameters[:first]] + [value]
                        for _, _, fits, values in parameters[first + 1:]:
                            args.append(barred(values, fits)[0])
                        self.unusable(parameters[first][0], as_told(call), *given, *args)
                        args[first + 1:] = [None for _ in args[first + 1:]]
                        self.unusable(parameters[first][0], as_told(call), *given, *args)

    def test_generators_wait(self):
        for call, args in ((patterncounts.patterns_of, (0, 1)), (patterncounts.patterns_of, (2, True))):
            made = call(*args)
            self.assertIsInstance(made, types.GeneratorType)
            self.unusable("size" if args[0] == 0 else "balls", next, made)
        self.assertIsInstance(books.words_of(TWINS), types.GeneratorType)

    def test_judged_things_stay(self):
        """The functions that judge a thing take it by name too, and do not change it."""
        handed = ((papercheckers.lets_pattern_of, {"book": TWINS}), (planchecker.lets_plan, {"pattern": (1, 1)}),
                  (countchecker.lets_count, {"pattern": (1, 1)}), (wishchecker.lets_wish, {"bounds": WISH, "balls": 2}),
                  (cappapers.lets_caps, {"size": 4, "caps": CAPS, "rank": 2}),
                  (likechecker.lets_like, {"one": TWINS, "other": TWINS}),
                  (orderpapers.lets_below, {"one": THROWS, "other": (2, 2, 2, 2)}))
        for call, given in handed:
            for thing in ODD + (["throws", [1], []], ("throws", [1], [None]), ([["rest", 0]], ["full"]),
                                ["both", 0, ["one"]], ("turned", [0], ["one"]), ("like", "turned", 0, [1]),
                                ["swaps", []], ("swaps", [(0, 1)]), ("stretch", [0, 1])):
                kept = copy.deepcopy(thing)
                for args, named in (((), given | {"thing": thing}), ((*given.values(), thing), {})):
                    with self.assertRaises(InvalidPaper):
                        call(*args, **named)
                self.assertTrue(same(thing, kept))

    def test_kinds_of_results(self):
        flags = ((books.has_word, (TWINS, (1, 0, 0, 0))), (books.is_part, (TWINS, TWINS)),
                 (columns.spans, (TWINS, (0,), 1)), (swaps.can_swap, (THROWS, 0, 1)),
                 (swaps.can_swap, (THROWS, 0, 2)), (ranktables.is_rank_table, (TABLE,)),
                 (patterns.is_throws, (THROWS,)), (patterns.is_throws, ((),)), (bursts.mends_burst, (THROWS, (0, 2))),
                 (losses.holds_any, (TWINS, (0, 2))), (wishes.is_within, (THROWS, WISH)),
                 (wishchecker.lets_wish, (WISH, 2, ("throws", (2, 2, 2, 2)))), (caps.keeps_caps, (THROWS, CAPS)),
                 (cappapers.lets_caps, (4, CAPS, 0, ("lot", ()))), (order.lies_below, (THROWS, THROWS)),
                 (order.lies_below, ((2, 2, 2, 2), THROWS)), (orderpapers.lets_below, (THROWS, THROWS, ("swaps", ()))),
                 (orderpapers.lets_below, ((2, 2, 2, 2), THROWS, ("stretch", (0, 2)))), (liveevents.is_event, (("turn", 1),)),
                 (liveevents.is_event, (None,)), (liveevents.is_log, ((("ring", TWINS),),)), (liveevents.is_log, ((),)))
        for call, args in flags:
            self.assertIs(type(call(*args)), bool, call.__name__)


if __name__ == "__main__":
    unittest.main()
