"""What is left of ways, squares, images, joins, which ways are within others."""

import itertools
import random
import unittest

from remainways.books import Book
from remainways.remains import alike, images, joined, left, left_of_lot, squares, within
from remainways.steps import step_places
from remainways.terms import Term
from remainways.ways import Way
from tests.helper import ANY_VALUES, BOOKS, Case, cases, left_by_words, nested, part_of, sized
from tests.waywords import (STRIKING, alike_by_words, chain, great_start, images_after, left_way_by_words, lower,
                            random_lots, random_ways, squares_by_words, strangers, twin_of, upper, within_by_words)

PAIRS = random_ways(150, 101, 2, 4)
TRIPLES = random_ways(80, 103, 3, 2)
BOOK = BOOKS[2]
START = Term.read("two(two(o))")


def told(one, other):
    """What the definitions take: the book, the start, and the lots of both."""
    return one.book, one.start, one.lots(), other.lots()


def table(rows):
    """The items of lists of lists by their indexes."""
    return {(i, j): item for i, row in enumerate(rows) for j, item in enumerate(row)}


class SquaresTest(Case):
    def test_ordinary_squares(self):
        one, other = Way.read(BOOK, START, ".;1"), Way.read(BOOK, START, "1")
        corners, downs, acrosses = squares(one=one, other=other)
        texts = [[term.text() for term in row] for row in corners]
        self.assertEqual(texts, [["two(two(o))", "two(pair(o,o))"],
                                 ["pair(two(o),two(o))", "pair(pair(o,o),pair(o,o))"],
                                 ["pair(pair(o,o),two(o))", "pair(pair(o,o),pair(o,o))"]])
        self.assert_equal(downs, [[((),), ((),)], [((1,),), ()]])
        self.assert_equal(acrosses, [[((1,),)], [((1,), (2,))], [((2,),)]])

    def test_each_corner_and_each_lot_by_words(self):
        for one, other in PAIRS:
            corners, downs, acrosses = squares_by_words(*told(one, other))
            if all(term.is_fit() for term in corners.values()):
                found = squares(one, other)
                self.assertIsInstance(found, tuple)
                self.assertEqual([len(rows) for rows in found], [len(one) + 1, len(one), len(one) + 1])
                for rows, wanted, many in zip(found, (corners, downs, acrosses), (1, 1, 0)):
                    self.assertIsInstance(rows, list)
                    for row in rows:
                        self.assertIsInstance(row, list)
                        self.assertEqual(len(row), len(other) + many)
                    self.assert_equal(sorted(table(rows).items(), key=lambda item: item[0]),
                                      sorted(wanted.items(), key=lambda item: item[0]))

    def test_ways_without_lots_and_empty_lots(self):
        none, way = Way(BOOK, START), Way(BOOK, START, [[], [()], []])
        self.assert_equal(squares(none, none), ([[START]], [], [[]]))
        self.assert_equal(squares(none, way), ([way.terms()], [], [[(), ((),), ()]]))
        self.assert_equal(squares(way, none), ([[term] for term in way.terms()], [[()], [((),)], [()]], [[], [], [], []]))

    def test_lists_are_new(self):
        one, other = Way.read(BOOK, START, ".;1"), Way.read(BOOK, START, "1;.")
        first = squares(one, other)
        wanted = repr(first)
        for rows in first:
            for row in rows:
                row.append(None)
            rows.append(None)
        self.assertEqual(repr(squares(one, other)), wanted)
        self.assertEqual([one.text(), other.text()], [".;1", "1;."])
        self.assertEqual(len(one.terms()), 3)

    def test_corners_that_are_not_fit(self):
        self.raises("TooGreat", [], squares, upper(13, 6), lower(13, 7))
        self.raises("TooGreat", [], squares, lower(13, 7), upper(13, 6))
        self.assertEqual(len(squares(upper(8, 4), lower(8, 4))[0]), 2)
        # The last corner is fit, one in between is not.
        one = Way(STRIKING, great_start(12), [[(2,) + (1,) * at for at in range(6, 12)], [(1,)], [()]])
        other = Way(STRIKING, great_start(12), [[(2,) + (1,) * at for at in range(6)]])
        self.raises("TooGreat", [], squares, one, other)
        self.raises("TooGreat", [], left, one, other)
        self.assertEqual([left(other, one).text(), joined(one, other).end.text()], ["0", "o"])


class LeftTest(Case):
    def test_ordinary_ways(self):
        one, third = Way.read(BOOK, START, ".;1"), Way.read(BOOK, START, "1;.")
        self.assertEqual([left(one, third).text(), left(third, one).text()], ["0;0", "2;0"])
        self.assertEqual(left(one=one, other=third).start, third.end)
        single = Way.read(BOOKS[1], Term.read("one(one(o))"), ".")
        beside = Way.read(BOOKS[1], Term.read("one(one(o))"), "1")
        self.assertEqual([left(single, beside).text(), left(beside, single).text()], [".", "."])

    def test_both_ways_round_by_words(self):
        for one, other in PAIRS:
            for first, second in ((one, other), (other, one)):
                found = left(first, second)
                self.assert_equal(found.lots(), left_way_by_words(*told(first, second)))
                self.assertEqual([found.book, found.start], [first.book, second.end])

    def test_both_lead_to_the_same_term(self):
        for one, other in PAIRS:
            self.assertEqual(left(one, other).end, left(other, one).end)

    def test_ways_without_lots_and_empty_lots(self):
        none, way = Way(BOOK, START), Way(BOOK, START, [[], [()], []])
        self.assertEqual([left(none, way).text(), left(way, none).text(), left(none, none).text()], ["-", "0;.;0", "-"])
        self.assertEqual(left(way, way).text(), "0;0;0")
        self.assertEqual(left(none, way).start, way.end)

    def test_a_corner_in_between_is_not_fit(self):
        start = great_start(14)
        inner = Way(STRIKING, start, [[(2,) + (1,) * at for at in range(7)], [(1,)], [()]])
        other = Way(STRIKING, start, [[(2,) + (1,) * at for at in range(7, 14)], [(1,)], [()]])
        self.raises("TooGreat", [], squares, inner, other)
        self.assertEqual([left(inner, other).text(), left(other, inner).text()], ["0;0;0", "0;0;0"])
        self.assertIs(alike(inner, other), True)

    def test_what_is_left_is_not_fit(self):
        one, other = upper(14, 7), lower(14, 7)
        self.raises("TooGreat", [], left, one, other)
        self.raises("TooGreat", [], left, other, one)
        self.raises("TooGreat", [], joined, one, other)
        self.assertEqual([within(one, other), alike(one, other), within(one, one)], [False, False, True])


class ImagesTest(Case):
    def test_ordinary_images(self):
        start = Term.read("two(two(two(o)))")
        way = Way.read(BOOK, start, ".;1;2")
        self.assert_equal(images(way, (1, 1)), ((1, 1), (1, 2), (2, 1), (2, 2)))
        self.assert_equal(images(way=way, place=(1,)), ())
        self.assert_equal(images(way, ()), ())
        self.assert_equal(images(Way(BOOK, start), (1,)), ((1,),))
        self.assert_equal(left_of_lot(way, [(1, 1), (), (1, 1)]), ((1, 1), (1, 2), (2, 1), (2, 2)))
        self.assert_equal(left_of_lot(way=Way(BOOK, start, [[]]), lot=((1,), ())), ((), (1,)))
        self.assert_equal([left_of_lot(way, []), left_of_lot(way, ())], [(), ()])

    def test_images_and_lots_by_words(self):
        dice = random.Random(1)
        for book, start, steps in cases(120, 107):
            way = Way(book, start, random_lots(dice, book, start, 4))
            for place in steps:
                self.assert_equal(images(way, place), images_after(book, start, [place], way.lots()))
            lot = part_of(dice, steps)
            found = left_of_lot(way, lot + lot)
            self.assert_equal(found, images_after(book, start, lot, way.lots()))
            self.assertEqual(sorted(place for step in lot for place in images(way, step)), list(found))

    def test_images_are_steps_of_the_same_rule(self):
        for one, other in PAIRS:
            found = [place for step in step_places(one.book, one.start) for place in images(one, step)]
            self.assertEqual(len(found), len(set(found)))
            self.assertEqual(set(found) - set(step_places(one.book, one.end)), set())

    def test_many_images(self):
        way = Way(BOOK, chain(10), [[(1,) * at for at in range(9)]])
        found = images(way, (1,) * 9)
        self.assert_equal(found, tuple(itertools.product((1, 2), repeat=9)))
        self.assert_equal(left_of_lot(way, [(1,) * 9, ()]), found)

    def test_values_that_are_no_steps(self):
        way = Way.read(BOOK, START, ".;1")
        for value in ANY_VALUES:
            if value not in ((), (1,)) or isinstance(value, list) or repr(value) == "(True,)":
                self.raises("NoStep", [0, value], images, way, value)
                self.raises("NoStep", [0, value], left_of_lot, way, [(1,), value, (9,)])
                self.raises("NoStep", [0, value], left_of_lot, way, (value, None))
            if not isinstance(value, (list, tuple)):
                self.raises("InvalidLot", [0], left_of_lot, way, value)
        self.raises("NoStep", [0, (2,)], images, way, (2,))
        self.raises("NoStep", [0, (1, 1)], left_of_lot, way, [(), (1, 1), (2,)])

    def test_lots_are_not_changed(self):
        lot, way = [(1,), (), (1,)], Way.read(BOOK, START, ".")
        self.assert_equal(left_of_lot(way, lot), ((1,), (2,)))
        self.assertEqual([lot, way.text()], [[(1,), (), (1,)], "."])


class WithinTest(Case):
    def test_ordinary_ways(self):
        ways = [Way.read(BOOK, START, text) for text in ("-", "0", ".", "1", ".;1", "1;.", ".+1", ".;1;2")]
        rows = ["11111111", "11111111", "00101111", "00010111", "00001111", "00000111", "00000111", "00000111"]
        for one, row in zip(ways, rows):
            self.assertEqual("".join("01"[within(one=one, other=other)] for other in ways), row)
        for one, other in itertools.product(ways, ways):
            self.assertIs(alike(one=one, other=other), within(one, other) and within(other, one))

    def test_by_words(self):
        for one, other in PAIRS:
            self.assertIs(within(one, other), within_by_words(*told(one, other)))
            self.assertIs(alike(one, other), alike_by_words(*told(one, other)))

    def test_each_way_is_within_itself(self):
        for one, other in PAIRS:
            self.assertIs(within(one, one), True)
            self.assertIs(alike(one, twin_of(one)), True)

    def test_within_is_handed_on(self):
        for one, other, third in TRIPLES:
            both = joined(one, other)
            for ahead, behind in ((one, other), (one, both), (other, both)):
                if within(ahead, behind) and within(behind, third):
                    self.assertIs(within(ahead, third), True)
            self.assertIs(within(one, joined(both, third)), True)

    def test_alike_ways(self):
        for one, other in PAIRS:
            same = left(one, Way(one.book, one.start))
            again = Way(one.book, one.start, [lot for lot in one.lots() if lot])
            for twin in (same, again, Way(one.book, one.start, [()] + one.lots() + [()])):
                self.assertIs(alike(one, twin), True)
                self.assertEqual(one.end, twin.end)
                self.assertIs(alike(left(other, one), left(other, twin)), True)

    def test_alike_ways_have_the_same_end_and_leave_the_same(self):
        met = 0
        for one, other, third in TRIPLES:
            first, second = joined(one, other), joined(other, one)
            self.assertIs(alike(first, second), True)
            self.assertEqual(first.end, second.end)
            self.assertEqual(left(third, first).end, left(third, second).end)
            self.assertIs(alike(left(third, first), left(third, second)), True)
            met += first != second
        self.assertGreater(met, 20)

    def test_lots_behind_and_ways_ahead(self):
        dice = random.Random(2)
        for one, other, third in TRIPLES:
            first, second = joined(one, other), joined(other, one)
            more = random_lots(dice, first.book, first.end, 2)
            behind = Way(first.book, first.end, more)
            self.assertIs(alike(first.followed_by(behind), second.followed_by(behind)), True)
            ahead = Way(third.book, third.end, random_lots(dice, third.book, third.end, 2))
            beside = Way(third.book, third.end, random_lots(dice, third.book, third.end, 2))
            self.assertIs(alike(third.followed_by(ahead), third.followed_by(beside)), alike(ahead, beside))

    def test_great_corners_are_no_hindrance(self):
        start = great_start(14)
        upper_lot, lower_lot = ([(2,) + (1,) * at for at in rows] for rows in (range(7), range(7, 14)))
        one, other = Way(STRIKING, start, [upper_lot, [(1,)], [()]]), Way(STRIKING, start, [lower_lot])
        self.assertEqual([within(one, other), within(other, one), alike(one, other)], [False, True, False])
        self.assertEqual([images(one, place) for place in step_places(STRIKING, start)], [()] * 15)
        self.assertEqual(left_of_lot(one, [(2,), (1,)]), ())


class JoinTest(Case):
    def test_ordinary_joins(self):
        one, other = Way.read(BOOK, START, ".;1"), Way.read(BOOK, START, ".;2")
        self.assertEqual(joined(one, other).text(), ".;1;0;2")
        self.assertEqual(joined(other, one).text(), ".;2;0;1")
        self.assertEqual(joined(one, other, one).text(), ".;1;0;2;0;0")
        self.assertEqual(joined(way=one), one)
        self.assertEqual(joined(one, Way(BOOK, START)), one)
        self.assertEqual(joined(Way(BOOK, START), one), one)

    def test_joins_by_words(self):
        for one, other in PAIRS:
            found = joined(one, other)
            self.assertEqual(found.lots(), one.lots() + left_way_by_words(*told(other, one)))
            self.assertEqual(found, one.followed_by(left(other, one)))
            self.assertIs(within(one, found) and within(other, found), True)

    def test_the_join_is_within_each_way_within_which_both_are(self):
        met = 0
        for one, other, third in TRIPLES:
            if within(one, third) and within(other, third):
                self.assertIs(within(joined(one, other), third), True)
                met += 1
            whole = joined(third, one, other)
            self.assertIs(within(joined(one, other), whole), True)
        self.assertGreater(met, 5)

    def test_all_groupings_and_orders(self):
        for ways in TRIPLES:
            made = []
            for one, other, third in itertools.permutations(ways):
                made += [joined(one, other, third), joined(joined(one, other), third), joined(one, joined(other, third))]
                self.assertEqual(made[-3], made[-2])
            for way in made:
                self.assertIs(alike(made[0], way), True)
                self.assertEqual(made[0].end, way.end)

    def test_three_lots_by_both_roads(self):
        dice = random.Random(3)
        for book, start, steps in cases(100, 109):
            lots = [part_of(dice, steps) for _ in range(3)]
            one, other = (Way(book, start, [lot]) for lot in lots[:2])
            first = left_by_words(book, one.end, left_by_words(book, start, lots[2], lots[0]), left(other, one).lots()[0])
            self.assert_equal(left_of_lot(joined(one, other), lots[2]), first)
            self.assert_equal(left_of_lot(joined(other, one), lots[2]), first)


class WrongTest(Case):
    def test_other_starts(self):
        way = Way.read(BOOK, START, ".;1")
        for other in strangers(way):
            for call in (left, squares, within, alike, joined):
                self.raises("OtherStart", [], call, way, other)
                self.raises("OtherStart", [], call, other, way)
        for call in (left, squares, within, alike, joined):
            call(way, twin_of(way))

    def test_other_starts_are_ahead_of_too_great(self):
        one, other = upper(14, 7), lower(14, 7)
        for stranger in strangers(one)[:1]:
            self.raises("OtherStart", [], joined, one, other, stranger)
            self.raises("OtherStart", [], joined, one, stranger, other)
            self.raises("OtherStart", [], joined, stranger, one, other)
        longer = Way(one.book.with_rule(Book.read("1 strange -> o\n").rules()[0]), one.start, one.lots())
        self.raises("OtherStart", [], squares, longer, other)
        self.raises("OtherStart", [], left, other, longer)

    def test_the_bound_of_places(self):
        for many, fit in ((499, True), (500, False)):
            start = Term("two", Term("two", sized(many)))
            one, other = Way.read(BOOK, start, "."), Way.read(BOOK, start, "1")
            if fit:
                self.assertEqual([left(one, other).text(), joined(other, one).text()], [".", "1;."])
                self.assertEqual(squares(one, other)[0][1][1].size(), 4 * many + 3)
            else:
                for call in (left, joined, squares):
                    self.raises("TooGreat", [], call, one, other)
            self.assertIs(within(one, other), False)

    def test_the_bound_of_levels(self):
        book = Book.read("1 up(X) -> s(s(X))\n")
        for many, fit in ((95, True), (96, False)):
            start = Term("up", nested("s", many, Term("up", Term("o"))))
            one, other = Way.read(book, start, "."), Way(book, start, [[(1,) * (many + 1)]])
            if fit:
                self.assertEqual([left(one, other).end.levels, squares(one, other)[0][1][1].levels], [100, 100])
            else:
                for call in (left, joined, squares):
                    self.raises("TooGreat", [], call, one, other)
            self.assertEqual([within(one, other), alike(one, one)], [False, True])


if __name__ == "__main__":
    unittest.main()
