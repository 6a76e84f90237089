"""Ways side by side, and ways put into terms."""

import random
import unittest

from remainways.beside import put_way, side_by_side
from remainways.books import Book
from remainways.layers import layers
from remainways.remains import joined, left
from remainways.steps import step_places
from remainways.terms import Term
from remainways.ways import Way
from tests.helper import ANY_VALUES, BOOKS, Case, cases, nested, random_term, sized
from tests.test_steps import NO_STARTS
from tests.waywords import chain, random_lots, strangers

BOOK = BOOKS[2]
START = Term.read("two(two(o))")
ONE = Way.read(BOOK, START, ".;1;0")
OTHER = Way.read(BOOK, Term.read("fst(pair(two(o),o))"), "1.1+.")


def some_ways(dice, rows, many):
    """So many ways of one book, of different lengths."""
    book = dice.choice(BOOKS[1:])
    starts = [start for other, start, steps in rows if other == book]
    return [Way(book, start, random_lots(dice, book, start, dice.randint(0, 4)))
            for start in (dice.choice(starts) for _ in range(many))]


def beside_by_words(rows):
    """[20]: the lots side by side of lists of lots."""
    return [tuple((at + 1,) + place for at, row in enumerate(rows) if index < len(row) for place in row[index])
            for index in range(max(len(row) for row in rows))]


class SideTest(Case):
    def test_ordinary_ways(self):
        way = side_by_side("f", [ONE, OTHER, Way(BOOK, START)])
        self.assertEqual([way.book, way.start.text()], [BOOK, "f(two(two(o)),fst(pair(two(o),o)),two(two(o)))"])
        self.assertEqual([way.text(), way.end.text()], ["1+2+2.1.1;1.1;0", "f(pair(pair(o,o),two(o)),pair(o,o),two(two(o)))"])
        self.assertEqual(side_by_side(name="f", ways=(ONE,)).text(), "1;1.1;0")
        self.assertEqual(side_by_side("f", [Way(BOOK, START)] * 4).text(), "-")
        self.assertEqual(side_by_side("f", [Way(BOOK, START), Way(BOOK, START, [[], []])]).text(), "0;0")

    def test_ways_by_words(self):
        dice, rows = random.Random(1), cases(120, 307, 6, 40)
        for many in (1, 2, 3, 4) * 20:
            ways = some_ways(dice, rows, many)
            way = side_by_side("list", ways)
            self.assert_equal(way.lots(), beside_by_words([one.lots() for one in ways]))
            self.assertEqual(way.start, Term("list", *[one.start for one in ways]))
            self.assertEqual(way.end, Term("list", *[one.end for one in ways]))

    def test_layers_side_by_side(self):
        dice, rows = random.Random(2), cases(120, 311, 6, 40)
        for many in (1, 2, 3, 4) * 15:
            ways = some_ways(dice, rows, many)
            way = side_by_side("list", ways)
            self.assert_equal(layers(way), beside_by_words([layers(one) for one in ways]))

    def test_what_is_left_side_by_side(self):
        dice, rows = random.Random(3), cases(120, 313, 5, 30)
        for _ in range(30):
            ways = some_ways(dice, rows, 2)
            others = [Way(one.book, one.start, random_lots(dice, one.book, one.start, 3)) for one in ways]
            rests = [left(one, other) for one, other in zip(ways, others)]
            whole = left(side_by_side("list", ways), side_by_side("list", others))
            wanted = side_by_side("list", rests).lots()
            self.assertEqual([lot for lot in whole.lots() if lot], [lot for lot in wanted if lot])

    def test_a_name_that_makes_the_top_a_step_place(self):
        way = side_by_side("two", [ONE])
        self.assertEqual(way.text(), "1;1.1;0")
        self.assertIn((), step_places(BOOK, way.start))
        self.assertEqual(joined(way, Way.read(BOOK, way.start, ".")).end.text(),
                         "pair(pair(pair(o,o),two(o)),pair(pair(o,o),two(o)))")
        way = side_by_side("fst", [Way.read(BOOK, Term.read("pair(two(o),o)"), "1")])
        self.assertEqual([way.text(), layers(way)], ["1.1", [((1, 1),)]])
        self.assertIn((), step_places(BOOK, way.start))

    def test_lists_are_not_changed(self):
        ways = [ONE, OTHER]
        way = side_by_side("f", ways)
        ways.clear()
        self.assertEqual([way.text(), ONE.text(), OTHER.text()], ["1+2+2.1.1;1.1;0", ".;1;0", ".+1.1"])

    def test_errors_in_their_order(self):
        great = Way(BOOK, sized(2000))
        other = strangers(ONE)[0]
        for value in ANY_VALUES:
            if value not in ("a", "add"):
                self.raises("InvalidName", [value], side_by_side, value, [])
                self.raises("InvalidName", [value], side_by_side, value, [great, other])
        self.raises("InvalidNumber", [0], side_by_side, "f", [])
        self.raises("InvalidNumber", [0], side_by_side, "f", ())
        self.raises("InvalidNumber", [5], side_by_side, "f", [great, other, great, ONE, ONE])
        self.raises("InvalidNumber", [400], side_by_side, "f", [ONE] * 400)
        for ways in ([ONE, other], [other, ONE], [ONE, ONE, ONE, other], [great, other]):
            self.raises("OtherBook", [], side_by_side, "f", ways)
        self.raises("TooGreat", [], side_by_side, "f", [great])
        self.assertEqual(side_by_side("f", [Way(Book.read(BOOK.text()), START), ONE]).text(), "2;2.1;0")

    def test_bounds(self):
        for many, fit in ((999, True), (1000, False)):
            ways = [Way(BOOK, sized(many)), Way(BOOK, sized(1000))]
            if fit:
                self.assertEqual(side_by_side("f", ways).start.size(), 2000)
            else:
                self.raises("TooGreat", [], side_by_side, "f", ways)
        for many, fit in ((98, True), (99, False)):
            ways = [ONE, Way(BOOK, nested("s", many, Term("o")))]
            if fit:
                self.assertEqual(side_by_side("f", ways).start.levels, 100)
            else:
                self.raises("TooGreat", [], side_by_side, "f", ways)

    def test_terms_behind_that_are_not_fit(self):
        one = Way(BOOK, chain(9), [[(1,) * at for at in range(9)]])
        self.assertEqual(side_by_side("f", [one]).end.size(), 1024)
        self.raises("TooGreat", [], side_by_side, "f", [one, one])
        self.assertEqual(side_by_side("f", [one, Way(BOOK, sized(976))]).end.size(), 2000)
        self.raises("TooGreat", [], side_by_side, "f", [one, Way(BOOK, sized(977))])


class PutTest(Case):
    def test_ordinary_ways(self):
        term = Term.read("f(o,g(two(o),o))")
        way = put_way(term, (2, 2), ONE)
        self.assertEqual([way.start.text(), way.text()], ["f(o,g(two(o),two(two(o))))", "2.2;2.2.1;0"])
        self.assertEqual([way.book, way.end.text()], [BOOK, "f(o,g(two(o),pair(pair(o,o),two(o))))"])
        self.assertEqual(put_way(term=term, place=(), way=ONE), ONE)
        self.assertEqual(put_way(term, (2,), Way(BOOK, START, [[], []])).text(), "0;0")
        self.assertEqual(put_way(term, (1,), Way(BOOK, START)).start.text(), "f(two(two(o)),g(two(o),o))")
        self.assertEqual(term.text(), "f(o,g(two(o),o))")

    def test_ways_and_layers_by_words(self):
        dice, rows = random.Random(4), cases(120, 317, 6, 40)
        for _ in range(80):
            way = some_ways(dice, rows, 1)[0]
            term = random_term(dice, way.book, 4)
            place = dice.choice(term.places())
            found = put_way(term, place, way)
            self.assertEqual([found.book, found.start], [way.book, term.with_sub(place, way.start)])
            self.assert_equal(found.lots(), [tuple(place + step for step in lot) for lot in way.lots()])
            self.assertEqual(found.end, term.with_sub(place, way.end))
            if not [other for other in step_places(way.book, found.start) if place[:len(other)] == other != place]:
                self.assert_equal(layers(found), [tuple(place + step for step in lot) for lot in layers(way)])

    def test_layers_beneath_step_places(self):
        way = put_way(Term.read("two(fst(pair(o,o)))"), (1, 1, 2), ONE)
        self.assert_equal([way.text(), layers(way)], ["1.1.2;1.1.2.1;0", [((1, 1, 2),), ((1, 1, 2, 1),)]])

    def test_errors_in_their_order(self):
        term = Term.read("f(o,two(o))")
        for value in NO_STARTS:
            self.raises("InvalidTerm", [], put_way, value, None, ONE)
        for value in ANY_VALUES + [(3,), (1, 1), (2, 1, 1)]:
            if not (isinstance(value, tuple) and value in ((), (1,))) or repr(value) == "(True,)":
                self.raises("NoPlace", [value], put_way, term, value, ONE)
                self.raises("NoPlace", [value], put_way, term, value, Way(BOOK, sized(2000)))
        self.raises("TooGreat", [], put_way, term, (1,), Way(BOOK, sized(2000)))

    def test_bounds(self):
        for many, fit in ((1998, True), (1999, False)):
            if fit:
                self.assertEqual(put_way(Term.read("f(o,o)"), (1,), Way(BOOK, sized(many))).start.size(), 2000)
            else:
                self.raises("TooGreat", [], put_way, Term.read("f(o,o)"), (1,), Way(BOOK, sized(many)))
        for many, fit in ((49, True), (50, False)):
            way = Way(BOOK, nested("s", 50, Term("o")))
            term, place = nested("s", many, Term("o")), (1,) * many
            if fit:
                self.assertEqual(put_way(term, place, way).start.levels, 100)
            else:
                self.raises("TooGreat", [], put_way, term, place, way)

    def test_terms_behind_that_are_not_fit(self):
        one = Way(BOOK, chain(9), [[(1,) * at for at in range(9)]])
        fits, great = Term("f", Term("o"), sized(976)), Term("f", Term("o"), sized(977))
        self.assertEqual(put_way(fits, (1,), one).end.size(), 2000)
        self.raises("TooGreat", [], put_way, great, (1,), one)


if __name__ == "__main__":
    unittest.main()
