"""Lean ways, and ways moved to other starts."""

import random
import unittest

from remainways.books import Book
from remainways.layers import key_of, layers, settled, singles
from remainways.lean import lean, moved
from remainways.pieces import common_piece, is_piece_of
from remainways.remains import alike, joined
from remainways.terms import Term
from remainways.ways import Way
from remainways.why import run_on, why
from tests.helper import ANY_VALUES, BOOKS, Case, random_term, sized
from tests.piecewords import filled_up, lean_by_words, random_piece, standing_by_words
from tests.test_pasts import grown
from tests.test_steps import NO_STARTS
from tests.waywords import STRIKING, great_start, random_ways

BOOK = BOOKS[2]
START = Term.read("fst(pair(two(o),two(o)))")
STRIKES = [book for book in BOOKS if book.first_striking() is not None]
WAYS = [way for way, in random_ways(150, 901, 1, 4) + random_ways(250, 919, 1, 5, books=STRIKES)]
PAIRS = random_ways(60, 907, 2, 3)


def told(way):
    """What the definitions take: the book, the start, the lots."""
    return way.book, way.start, way.lots()


def others(dice, way):
    """Drawn pieces of the start of a way, each with a drawn term of which it is a piece, too."""
    for piece in [why(way), random_piece(dice, way.start, 0.1), random_piece(dice, way.start, 0.3)]:
        rows = [random_term(dice, way.book, 3) for _ in range(3)] + [Term("other")]
        yield piece, filled_up(dice, piece, rows)


class LeanTest(Case):
    def test_ordinary_ways(self):
        rows = (("1.1+1.2;.", ".+1.1"), (".;.", ".+1.1"), (".", "."), ("1.2;.", "."), ("1.2", "1.2"), ("-", "-"),
                ("0;0", "-"), ("1.2;0;.;.", ".+1.1"), ("1.1;1.2", "1.1+1.2"))
        for text, wanted in rows:
            self.assertEqual(lean(Way.read(BOOK, START, text)).text(), wanted)
        way = Way.read(BOOKS[1], Term.read("one(one(o))"), "1;.")
        self.assertEqual([lean(way=way).text(), lean(way).start, lean(way).book], [".+1", way.start, way.book])

    def test_places_within_one_layer_that_strikes_others(self):
        start = Term.read("fst(pair(o,two(o)))")
        one, other = Way(BOOK, start, [[(1, 2)], [()]]), Way(BOOK, start, [[()]])
        self.assertEqual([key_of(one), lean(one).text(), lean(other).text()], [".+1.2", ".", "."])

    def test_what_is_struck_in_a_later_layer(self):
        book = Book.read("1 a -> b\n1 b -> c\n1 m -> n\n1 n -> k\n1 h(k,X) -> o\n1 w(X,Y) -> h(X,Y)\n1 v(X) -> h(X,a)\n")
        way = Way.read(book, Term.read("w(m,a)"), ".;2;2;1;1;.")
        self.assertEqual([key_of(way), lean(way).text()], [".+1+2;1+2;.", ".+1;1;."])
        way = Way.read(book, Term.read("w(m,a)"), ".;2;1;1")
        self.assertEqual([key_of(way), lean(way).text()], [".+1+2;1", ".+1+2;1"])
        # What a right side brings stands in the run, also if it is struck later.
        way = Way.read(book, Term.read("v(m)"), ".;2;2;1;1;.")
        self.assertEqual([key_of(way), lean(way).text()], [".+1;1+2;.+2", ".+1;1+2;.+2"])

    def test_ways_by_words(self):
        striking = 0
        for way in WAYS:
            found = lean(way)
            self.assert_equal(found.lots(), lean_by_words(*told(way)))
            self.assertEqual([found.book, found.start], [way.book, way.start])
            striking += found.lots() != layers(way)
        self.assertGreater(striking, 30)

    def test_it_is_alike_and_within_the_layers(self):
        for way in WAYS:
            found = lean(way)
            self.assertIs(alike(found, way), True)
            self.assertEqual(found.end, way.end)
            rows = layers(way)
            self.assertEqual(len(found), len(rows))
            for lot, layer in zip(found.lots(), rows):
                self.assertNotEqual(lot, ())
                self.assertEqual(set(lot) - set(layer), set())

    def test_alike_ways_have_the_same_lean_way(self):
        for one, other in PAIRS:
            way = joined(one, other)
            for twin in (joined(other, one), lean(way), settled(way)):
                self.assertEqual(lean(twin), lean(way))

    def test_books_that_strike_nothing(self):
        for way in WAYS:
            if way.book.first_striking() is None:
                self.assertEqual(lean(way), settled(way))

    def test_the_settled_way_is_not_fit(self):
        for many in (12, 40, 90):
            way = Way(STRIKING, great_start(many), [[(1,)], [()]])
            self.raises("TooGreat", [], settled, way)
            self.assertEqual([lean(way).text(), lean(way).end.text()], ["1;.", "o"])
            both = Way(STRIKING, great_start(many), [[(1,), (2,)], [()]])
            self.assertEqual([key_of(both), lean(both).text()], [key_of(way), "1;."])

    def test_the_lean_way_is_not_fit(self):
        self.raises("TooGreat", [], lean, grown()[2])

    def test_nothing_is_changed(self):
        way = Way.read(BOOK, START, "1.1+1.2;.")
        lean(way).lots().clear()
        self.assertEqual([way.text(), lean(way).text()], ["1.1+1.2;.", ".+1.1"])


class MovedTest(Case):
    def test_ordinary_ways(self):
        way = Way.read(BOOK, START, "1.1+1.2;.;0")
        rows = (("fst(pair(two(o),_))", "fst(pair(two(o),a))", "1.1;.;0"), ("fst(_)", "fst(fst(a))", "0;0;0"),
                ("_", "b", "0;0;0"), (START.text(), START.text(), "1.1+1.2;.;0"),
                ("fst(pair(two(_),two(_)))", "fst(pair(two(two(o)),two(b)))", "1.1+1.2;.;0"))
        for piece, term, wanted in rows:
            found = moved(way, Term.read(piece), Term.read(term))
            self.assertEqual([found.text(), found.start.text(), found.book], [wanted, term, BOOK])
        self.assertEqual(moved(way=way, piece=Term("_"), term=Term("a")).text(), "0;0;0")

    def test_the_term_may_have_other_steps(self):
        way = Way.read(BOOK, Term.read("two(fst(pair(a,b)))"), ".+1")
        found = moved(way, Term.read("two(_)"), Term.read("two(fst(pair(c,d)))"))
        self.assertEqual([found.text(), found.end.text()], [".", "pair(fst(pair(c,d)),fst(pair(c,d)))"])

    def test_ways_by_words(self):
        dice = random.Random(1)
        for way in WAYS:
            for piece, term in others(dice, way):
                found = moved(way, piece, term)
                self.assert_equal(found.lots(), standing_by_words(*told(way), piece))
                self.assertEqual([len(found), found.book, found.start], [len(way), way.book, term])
                self.assertIs(is_piece_of(run_on(way, piece)[-1], found.end), True)
                self.assertIs(is_piece_of(run_on(way, piece)[-1], run_on(found, piece)[-1]), True)

    def test_moved_to_the_start_itself(self):
        for way in WAYS:
            self.assertEqual(moved(way, way.start, way.start), way)
            found = moved(way, why(way), way.start)
            self.assertEqual(found.end, way.end)
            self.assertIs(alike(found, way), True)

    def test_whys_with_other_terms_bring_the_same(self):
        dice = random.Random(2)
        met = 0
        for way in WAYS:
            piece = why(way)
            term = filled_up(dice, piece, [Term.read("other(one(o))"), Term("a")])
            self.assertEqual(moved(way, piece, term).end, way.end)
            met += term != way.start
        self.assertGreater(met, 30)

    def test_by_common_pieces(self):
        dice = random.Random(3)
        for one, other in zip(WAYS, WAYS[1:]):
            term = random_term(dice, one.book, 4)
            piece = common_piece(one.start, term)
            self.assert_equal(moved(one, piece, term).lots(), standing_by_words(*told(one), piece))
            if not is_piece_of(piece, other.start):
                self.raises("OtherStart", [], moved, one, piece, other.start)

    def test_errors_in_their_order(self):
        way = Way.read(BOOK, START, "1.1+1.2;.")
        term = Term.read("fst(pair(a,b))")
        for value in NO_STARTS:
            self.raises("InvalidTerm", [], moved, way, None, value)
            self.raises("InvalidTerm", [], moved, way, START, value)
        for value in ANY_VALUES + [Term.read("fst(X)"), Term.read("fst(pair(two(_),a))"), term, Term.read("pair(_,_)")]:
            self.raises("NotPiece", [], moved, way, value, START)
            self.raises("NotPiece", [], moved, way, value, term)
        for piece in (START, Term.read("fst(pair(two(_),_))"), Term.read("fst(pair(_,two(_)))")):
            self.raises("OtherStart", [], moved, way, piece, term)
        self.assertEqual(moved(way, Term.read("fst(pair(_,_))"), term).text(), "0;.")

    def test_other_starts_are_ahead_of_great_terms(self):
        way = Way.read(BOOK, Term.read("two(two(o))"), ".;1+2")
        fits = Term("two", Term("two", sized(499)))
        self.assertEqual(moved(way, Term.read("two(two(_))"), fits).end.size(), 1999)
        self.raises("TooGreat", [], moved, way, Term.read("two(two(_))"), Term("two", Term("two", sized(500))))
        great = Term("two", Term("two", sized(600)))
        self.raises("TooGreat", [], moved, way, Term.read("two(two(_))"), great)
        self.raises("OtherStart", [], moved, way, Term.read("two(two(o))"), great)
        self.raises("NotPiece", [], moved, way, Term.read("two(two(a))"), great)
        self.assertEqual(moved(way, Term.read("two(_)"), great).end.size(), 2 * 601 + 1)


if __name__ == "__main__":
    unittest.main()
