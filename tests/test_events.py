"""Events of ways in even books, their causes, and the parts that they make."""

import unittest

from remainways.books import Book
from remainways.events import causes, chain_layers, count_events, extent, is_before, part_of, without_event
from remainways.layers import layers, settled
from remainways.pasts import common_past
from remainways.remains import alike, joined, within
from remainways.terms import Term
from remainways.ways import Way
from remainways.works import parts
from tests.eventwords import (BOTH, COPIES, EVENS, STRIKES, beside, causes_by_words, even_ways, extent_by_words,
                              extents_by_words, one_behind_another)
from tests.helper import ANY_VALUES, BOOKS, Case, nested
from tests.test_works import SWAP, WAY
from tests.waywords import singles_by_words, strangers

WAYS = even_ways(110, 2401)
ROWS = [(way, extents_by_words(way)) for way in WAYS]
NO_EVENTS = [value for value in ANY_VALUES if value is True or value is False or value not in (0, 1)]


def before_by_words(way, extents):
    """The causes of each event."""
    return [causes_by_words(extents, event) for event in range(len(singles_by_words(way.lots())))]


class CountTest(Case):
    def test_ordinary_ways(self):
        self.assert_equal([count_events(WAY), count_events(way=WAY), count_events(Way(SWAP, WAY.start))], [3, 3, 0])
        self.assert_equal(count_events(Way(SWAP, WAY.start, [[], [(1,), (1, 1, 1)], [], [()]])), 3)
        for way in WAYS:
            self.assert_equal(count_events(way), sum(map(len, way.lots())))
        self.assert_equal(count_events(beside(400)), 400)


class ExtentTest(Case):
    def test_the_parts_of_the_example(self):
        found = [extent(WAY, part) for part in parts(WAY)]
        self.assert_equal(found, [(), (0,), (0, 2), (2,), (0, 1, 2), (0, 1)])
        self.assert_equal(extent(way=WAY, part=WAY), (0, 1, 2))

    def test_by_words(self):
        for way, extents in ROWS:
            for part, wanted in zip(parts(way), extents):
                self.assert_equal(extent(way, part), wanted)

    def test_ways_within_that_are_not_settled(self):
        met = 0
        for way in WAYS:
            for part in parts(way)[:6]:
                steps = Way(way.book, way.start, [lot for step in singles_by_words(part.lots()) for lot in (step, ())])
                self.assert_equal(extent(way, steps), extent_by_words(way, steps))
                self.assert_equal(extent(steps, steps), tuple(range(count_events(part))))
                met += 1
        self.assertGreater(met, 300)

    def test_as_many_events_as_single_steps(self):
        for way, extents in ROWS:
            for part, found in zip(parts(way), extents):
                self.assertEqual(len(found), count_events(part))

    def test_each_closed_tuple_is_the_extent_of_one_part(self):
        for way, extents in ROWS:
            self.assertEqual(len(set(extents)), len(extents))
            for one in extents:
                for event in one:
                    self.assertLessEqual(set(causes(way, event)), set(one))

    def test_within_as_the_extents_tell(self):
        for way, extents in ROWS[:60]:
            found = parts(way)[:9]
            for one, few in zip(found, extents):
                for other, many in zip(found, extents):
                    self.assertIs(within(one, other), set(few) <= set(many))
                    self.assertEqual(extent(way, joined(one, other)), tuple(sorted(set(few) | set(many))))
                    self.assertEqual(extent(way, common_past(one, other)), tuple(sorted(set(few) & set(many))))

    def test_ways_that_are_not_within(self):
        met = 0
        for way in WAYS:
            found = parts(way)
            for part in found[:8]:
                for other in found[:8]:
                    if within(other, part):
                        self.assertEqual(len(extent(part, other)), count_events(other))
                    else:
                        self.raises("NotWithin", [], extent, part, other)
                        met += 1
        self.assertGreater(met, 200)
        self.raises("NotWithin", [], extent, one_behind_another(5), one_behind_another(6))
        self.assert_equal(extent(one_behind_another(6), one_behind_another(5)), (0, 1, 2, 3, 4))

    def test_ways_that_lead_to_the_same_term_without_being_within(self):
        start = Term.read("one(one(o))")
        one, other = Way(EVENS[0], start, [[()]]), Way(EVENS[0], start, [[(1,)]])
        self.raises("NotWithin", [], extent, one, other)
        self.raises("NotWithin", [], extent, other, one)
        self.assert_equal(extent(joined(one, other), other), (1,))

    def test_errors_in_their_order(self):
        for book in (COPIES, STRIKES, BOTH):
            one = Way(book, Term.read("one(o)"))
            for other in strangers(one):
                if other != one:
                    self.raises("OtherStart", [], extent, one, other)
        start = Term.read("f(fst(pair(two(o),o)),o)")
        self.raises("Strikes", [1], extent, Way(BOTH, start), Way(BOTH, start, [[(1,)]]))
        self.raises("Strikes", [2], extent, Way(STRIKES, start), Way(STRIKES, start, [[(1,)]]))
        self.raises("Copies", [1], extent, Way(COPIES, start), Way(COPIES, start, [[(1, 1, 1)]]))


class CausesTest(Case):
    def test_the_example(self):
        self.assert_equal([causes(WAY, event) for event in range(3)], [(), (0,), ()])
        self.assert_equal(causes(way=WAY, event=1), (0,))

    def test_by_words(self):
        met = 0
        for way, extents in ROWS:
            before = before_by_words(way, extents)
            self.assert_equal([causes(way, event) for event in range(len(before))], before)
            for one in range(len(before)):
                for other in range(len(before)):
                    self.assertIs(is_before(way, one, other), one in before[other])
                    met += one in before[other]
        self.assertGreater(met, 200)

    def test_what_is_taken_away_from_between(self):
        # f and g stand in the start, but two steps must bring them together; nothing of the steps stays.
        way = Way.read(EVENS[0], Term.read("k(f(one(one(one(g(o))))))"), "1.1;1.1+1.1.1;1;.")
        self.assert_equal([causes(way, event) for event in range(5)], [(), (), (), (0, 1, 2), (0, 1, 2, 3)])
        # A step that brings what is above, with others between it and what is beneath.
        self.assertIs(is_before(way, 0, 3), True)
        way = Way.read(EVENS[0], Term.read("k(one(f(g(one(o)))))"), "1.1.1.1;1.1;1;.")
        self.assert_equal([causes(way, event) for event in range(4)], [(), (), (), (1, 2)])
        self.assert_equal(chain_layers(way), [(0, 1, 2), (3,)])

    def test_steps_beneath_what_moves(self):
        way = Way.read(EVENS[1], Term.read("turn(turn(o,swap(pair(o,a))),o)"), ".;2;2.1;2;.")
        self.assert_equal([causes(way, event) for event in range(5)], [(), (), (), (1,), (0,)])
        self.assert_equal(chain_layers(way), [(0, 1, 2), (3, 4)])

    def test_very_many_events(self):
        way = one_behind_another(400)
        self.assert_equal(causes(way, 399), tuple(range(399)))
        self.assert_equal(chain_layers(way), [(event,) for event in range(400)])
        self.assert_equal([causes(beside(400), 399), chain_layers(beside(400))], [(), [tuple(range(400))]])

    def test_values_that_are_no_events(self):
        for value in NO_EVENTS + [3, 2 ** 70, -3, [0], (0,), "0", 1.0, WAY]:
            self.raises("UnknownEvent", [value], causes, WAY, value)
            for other in (0, 2, None, 3, [0]):
                self.raises("UnknownEvent", [value], is_before, WAY, value, other)
                self.raises("UnknownEvent", [value], without_event, WAY, value, other)
            for one in (0, 1, 2):
                self.raises("UnknownEvent", [value], is_before, WAY, one, value)
                self.raises("UnknownEvent", [value], without_event, WAY, one, value)
        self.raises("UnknownEvent", [0], causes, Way(SWAP, WAY.start, [[], []]), 0)
        self.assertIs(is_before(way=WAY, one=0, other=1), True)
        self.assertIs(is_before(WAY, 1, 1), False)


class PartsTest(Case):
    def test_ordinary_parts(self):
        rows = (([], "-"), ((0,), "1"), ([2, 0], "1+1.1.1"), ([2], "1.1.1"), ((1, 0), "1;."), ([2, 1, 0, 1, 2], "1+1.1.1;."))
        for events, text in rows:
            self.assertEqual([part_of(WAY, events).text(), part_of(way=WAY, events=tuple(events)).text()], [text, text])
        self.assertEqual(part_of(WAY, []), Way(SWAP, WAY.start))

    def test_each_part_is_told_by_its_extent(self):
        for way, extents in ROWS:
            for part, events in zip(parts(way), extents):
                for found in (part_of(way, events), part_of(way, list(reversed(events)) + list(events))):
                    self.assertEqual([found, found.lots()], [part, part.lots()])

    def test_tuples_that_are_not_closed(self):
        met = 0
        for way, extents in ROWS:
            before = before_by_words(way, extents)
            for number in range(min(64, 2 ** len(before))):
                events = [event for event in range(len(before)) if number >> event & 1]
                missing = [(event, cause) for event in events for cause in before[event] if cause not in events]
                if missing:
                    self.raises("NotClosed", min(missing), part_of, way, events[::-1])
                    met += 1
        self.assertGreater(met, 500)
        self.raises("NotClosed", [1, 0], part_of, WAY, [2, 1])
        self.raises("NotClosed", [3, 0], part_of, one_behind_another(6), (5, 3))
        self.raises("NotClosed", [5, 2], part_of, one_behind_another(6), (5, 1, 0))

    def test_items_that_are_no_events(self):
        for value in NO_EVENTS + [3, -1, 2 ** 70, [0], WAY]:
            self.raises("UnknownEvent", [value], part_of, WAY, [0, value, None])
            self.raises("UnknownEvent", [value], part_of, WAY, (value, 5))
            # Ahead of what is not closed.
            self.raises("UnknownEvent", [value], part_of, WAY, [1, value])
        self.raises("UnknownEvent", [True], part_of, WAY, (0, True, 1))

    def test_without_an_event(self):
        self.assertEqual([without_event(WAY, one, other) and without_event(WAY, one, other).text()
                          for one, other in ((0, 1), (0, 2), (1, 0), (2, 1), (2, 0), (1, 2))], [None, "1.1.1", "1", "1;.", "1", "1.1.1"])
        self.assertEqual(without_event(way=WAY, one=2, other=1).text(), "1;.")
        for way, extents in ROWS:
            before = before_by_words(way, extents)
            for one in range(len(before)):
                for other in range(len(before)):
                    events = before[other] + (other,)
                    wanted = None if one in events else part_of(way, events)
                    self.assertEqual(without_event(way, one, other), wanted)

    def test_layers_by_chains(self):
        self.assert_equal(chain_layers(WAY), [(0, 2), (1,)])
        self.assert_equal(chain_layers(way=Way(SWAP, WAY.start, [[]])), [])
        for way, extents in ROWS:
            before = before_by_words(way, extents)
            lengths = []
            for causing in before:
                lengths.append(1 + max([lengths[event] for event in causing], default=-1))
            wanted = [tuple(event for event in range(len(before)) if lengths[event] == length)
                      for length in range(max(lengths) + 1)]
            found = chain_layers(way)
            self.assert_equal(found, wanted)
            # The layers of the way do just these events.
            self.assertEqual([len(lot) for lot in layers(way)], [len(layer) for layer in found])
            done = []
            for many, layer in enumerate(found):
                done += layer
                self.assertEqual(part_of(way, done), Way(way.book, way.start, layers(way)[:many + 1]))
            self.assertIs(alike(part_of(way, done), way), True)

    def test_parts_that_are_not_fit(self):
        # The deeper steps take away what the upper ones bring, if all are done.
        book = Book.read("1 lift(X) -> " + nested("s", 22, Term("X")).text() + "\n1 drop(" + nested("s", 22, Term("X")).text() + ") -> X\n")
        start = nested("lift", 5, nested("drop", 1, nested("s", 22, Term("o"))))
        way = Way(book, start, [[(1,) * 5], [()], [(1,) * 22], [(1,) * 44], [(1,) * 66]])
        self.assertEqual(count_events(way), 5)
        self.raises("TooGreat", [], part_of, way, (1, 2, 3, 4))
        self.assertEqual(part_of(way, (0, 1, 2, 3)).end.levels, 69)
        self.assertEqual([causes(way, 4), settled(way).text()[:3]], [(), ".+1"])

    def test_books_that_are_not_even(self):
        start = Term.read("f(fst(pair(two(o),o)),o)")
        for call, told in ((count_events, ()), (causes, (5,)), (is_before, (None, 7)), (part_of, ([7],)), (without_event, (7, 7)), (chain_layers, ())):
            self.raises("Strikes", [1], call, Way(BOTH, start), *told)
            self.raises("Strikes", [2], call, Way(STRIKES, start), *told)
            self.raises("Copies", [1], call, Way(COPIES, start), *told)
            self.raises("Copies", [0], call, Way(BOOKS[2].read("1 two(X) -> pair(X,X)\n"), start), *told)

    def test_lists_that_are_told_are_new(self):
        events = [1, 0, 1]
        part_of(WAY, events).lots().clear()
        chain_layers(WAY).clear()
        self.assert_equal([events, chain_layers(WAY), part_of(WAY, events).text(), WAY.text()], [[1, 0, 1], [(0, 2), (1,)], "1;.", "1;.;1"])


if __name__ == "__main__":
    unittest.main()
