"""Runs on pieces, what stands in them, and why a piece of the end is there."""

import random
import unittest

from remainways.layers import settled, singles
from remainways.pieces import common_piece, is_piece_of, joined_piece, named_places, without_sign
from remainways.remains import joined
from remainways.terms import Term
from remainways.ways import Way
from remainways.why import run_on, standing, why
from tests.helper import ANY_VALUES, BOOKS, Case, nested
from tests.piecewords import (all_pieces, count_pieces, is_piece_by_parts, random_piece, run_of_lots,
                              standing_by_words, why_by_words)
from tests.waywords import chain, random_lots, random_ways, upper

BOOK = BOOKS[3]
START = Term.read("mul(s(s(o)),add(s(o),o))")
WAY = Way.read(BOOK, START, ".+2;.+1.1+2+2.2.1;1+1.2+1.2.2;1.1")
WAYS = [way for way, in random_ways(120, 801, 1, 4)]
PAIRS = random_ways(60, 809, 2, 3)
TWO = BOOKS[2]


def told(way):
    """What the definitions take: the book, the start, the lots."""
    return way.book, way.start, way.lots()


class RunTest(Case):
    def test_ordinary_runs(self):
        way = Way.read(TWO, Term.read("fst(pair(two(o),two(o)))"), "1.1+1.2;.;0")
        rows = {
            "_": (["_", "_", "_", "_"], [(), (), ()]),
            "fst(_)": (["fst(_)", "fst(_)", "_", "_"], [(), (), ()]),
            "fst(pair(_,_))": (["fst(pair(_,_))", "fst(pair(_,_))", "_", "_"], [(), ((),), ()]),
            "fst(pair(two(_),_))": (["fst(pair(two(_),_))", "fst(pair(pair(_,_),_))", "pair(_,_)", "pair(_,_)"],
                                    [((1, 1),), ((),), ()]),
            "fst(pair(_,two(o)))": (["fst(pair(_,two(o)))", "fst(pair(_,pair(o,o)))", "_", "_"], [((1, 2),), ((),), ()]),
        }
        for text, (pieces, lots) in rows.items():
            piece = Term.read(text)
            self.assertEqual([found.text() for found in run_on(way=way, piece=piece)], pieces)
            self.assert_equal(standing(way=way, piece=piece), lots)

    def test_what_the_same_lot_does_above_does_not_matter(self):
        way = Way.read(TWO, Term.read("fst(pair(two(o),two(o)))"), ".+1.1+1.2")
        self.assert_equal(standing(way, way.start), [((), (1, 1), (1, 2))])
        self.assert_equal(standing(way, Term.read("fst(pair(_,two(_)))")), [((), (1, 2))])
        way = Way.read(BOOKS[3], Term.read("add(s(add(o,o)),o)"), ".+1.1")
        self.assert_equal(standing(way, Term.read("add(_,o)")), [()])
        self.assert_equal(standing(way, Term.read("add(s(add(o,_)),_)")), [((), (1, 1))])
        self.assertEqual(run_on(way, Term.read("add(s(add(o,_)),_)"))[1].text(), "s(add(_,_))")

    def test_the_whole_start(self):
        for way in WAYS:
            self.assertEqual(run_on(way, way.start), way.terms())
            self.assert_equal(standing(way, way.start), way.lots())

    def test_runs_by_words(self):
        dice = random.Random(1)
        for way in WAYS:
            for often in (0.05, 0.15, 0.3):
                piece = random_piece(dice, way.start, often)
                self.assertEqual(run_on(way, piece), run_of_lots(*told(way), piece))
                self.assert_equal(standing(way, piece), standing_by_words(*told(way), piece))

    def test_each_piece_of_the_run_is_one_of_the_term_there(self):
        dice = random.Random(2)
        for way in WAYS:
            run = run_on(way, random_piece(dice, way.start, 0.15))
            self.assertEqual([is_piece_of(piece, term) for piece, term in zip(run, way.terms())], [True] * len(run))
            self.assertEqual(len(run), len(way) + 1)

    def test_a_lesser_piece_never_brings_more(self):
        dice = random.Random(3)
        for way in WAYS:
            piece = random_piece(dice, way.start, 0.1)
            less = random_piece(dice, piece, 0.1)
            for one, other in zip(run_on(way, less), run_on(way, piece)):
                self.assertIs(is_piece_of(one, other), True)
            for one, other in zip(standing(way, less), standing(way, piece)):
                self.assertEqual(set(one) - set(other), set())

    def test_common_pieces_are_kept(self):
        dice = random.Random(4)
        for way in WAYS:
            one, other = random_piece(dice, way.start, 0.1), random_piece(dice, way.start, 0.1)
            both = run_on(way, common_piece(one, other))
            wanted = [common_piece(*pair) for pair in zip(run_on(way, one), run_on(way, other))]
            self.assertEqual(both, wanted)

    def test_alike_ways_bring_the_same_at_the_end(self):
        dice = random.Random(5)
        for one, other in PAIRS:
            twins = [joined(one, other), joined(other, one)]
            twins += [settled(twins[0]), singles(twins[0])] if all(term.size() < 500 for term in twins[0].terms()) else []
            for _ in range(3):
                piece = random_piece(dice, one.start, 0.1)
                ends = [run_on(twin, piece)[-1] for twin in twins]
                self.assertEqual(ends, [ends[0]] * len(ends))

    def test_wrong_values(self):
        for call in (run_on, standing):
            for value in ANY_VALUES + [Term.read("mul(_,add(s(o),s(_)))"), Term.read("mul(X,_)"), Term("X"), "_"]:
                self.raises("NotPiece", [], call, WAY, value)
            self.raises("NotPiece", [], call, WAY, WAY.end)

    def test_lists_are_new(self):
        piece = Term.read("mul(s(_),_)")
        run_on(WAY, piece).clear()
        standing(WAY, piece).clear()
        self.assertEqual([len(run_on(WAY, piece)), len(standing(WAY, piece))], [5, 4])
        self.assertEqual([WAY.text(), piece.text()], [".+2;.+1.1+2+2.2.1;1+1.2+1.2.2;1.1", "mul(s(_),_)"])


class WhyTest(Case):
    def test_ordinary_pieces(self):
        rows = (("s(_)", "mul(s(_),add(s(_),_))"), ("_", "_"), ("s(s(_))", "mul(s(s(_)),add(s(o),o))"))
        for text, wanted in rows[:2]:
            self.assertEqual(why(WAY, piece=Term.read(text)).text(), wanted)
        self.assertEqual(why(way=WAY, piece=Term.read("s(s(_))")), why_by_words(*told(WAY), Term.read("s(s(_))")))
        way = Way.read(TWO, Term.read("fst(pair(two(o),two(o)))"), "1.1+1.2;.")
        for text, wanted in (("_", "_"), ("pair(_,_)", "fst(pair(two(_),_))"), ("pair(_,o)", "fst(pair(two(o),_))")):
            self.assertEqual(why(way, piece=Term.read(text)).text(), wanted)

    def test_the_whole_end(self):
        way = Way.read(TWO, Term.read("fst(pair(two(o),two(o)))"), "1.1+1.2;.")
        for found in (why(way), why(way, piece=None), why(way=way), why(way, piece=way.end)):
            self.assertEqual(found.text(), "fst(pair(two(o),_))")
        for way in WAYS:
            self.assertEqual(why(way), why(way, piece=way.end))

    def test_no_lots(self):
        way = Way(BOOK, START, [[], []])
        for text in ("_", "mul(_,add(_,o))", START.text()):
            self.assertEqual(why(way, piece=Term.read(text)).text(), text)
        self.assertEqual(why(Way(BOOK, START)), START)

    def test_whys_by_words(self):
        dice = random.Random(6)
        for way in WAYS:
            for piece in [way.end] + [random_piece(dice, way.end, often) for often in (0.1, 0.3)]:
                found = why(way, piece=piece)
                self.assertEqual(found, why_by_words(*told(way), piece))
                self.assertIs(is_piece_of(found, way.start), True)
                self.assertIs(is_piece_by_parts(piece, run_on(way, found)[-1]), True)

    def test_the_least_of_all_pieces_that_bring_it(self):
        dice = random.Random(7)
        met = 0
        for way in WAYS:
            if len(way) and count_pieces(way.start) < 200:
                for piece in (way.end, random_piece(dice, way.end, 0.2)):
                    found = why(way, piece=piece)
                    bring = [other for other in all_pieces(way.start)
                             if is_piece_by_parts(piece, run_of_lots(*told(way), other)[-1])]
                    self.assertIn(found, bring)
                    self.assertEqual([other for other in bring if not is_piece_by_parts(found, other)], [])
                    met += 1
        self.assertGreater(met, 60)

    def test_a_blank_at_any_named_place_brings_less(self):
        dice = random.Random(8)
        for way in WAYS:
            piece = random_piece(dice, way.end, 0.15)
            found = why(way, piece=piece)
            for place in named_places(found):
                end = run_on(way, without_sign(found, place))[-1]
                self.assertIs(is_piece_of(piece, end), False)

    def test_alike_ways_have_the_same_why(self):
        dice = random.Random(9)
        for one, other in PAIRS:
            first, second = joined(one, other), joined(other, one)
            piece = random_piece(dice, first.end, 0.15)
            self.assertEqual(why(first, piece=piece), why(second, piece=piece))
            self.assertEqual(why(first), why(settled(first)))

    def test_why_over_one_way_and_another_one_behind_it(self):
        dice = random.Random(10)
        for way in WAYS:
            behind = Way(way.book, way.end, random_lots(dice, way.book, way.end, 2))
            piece = random_piece(dice, behind.end, 0.15)
            self.assertEqual(why(way.followed_by(behind), piece=piece), why(way, piece=why(behind, piece=piece)))

    def test_why_of_a_joined_piece(self):
        dice = random.Random(11)
        for way in WAYS:
            one, other = random_piece(dice, way.end, 0.2), random_piece(dice, way.end, 0.2)
            found = joined_piece(why(way, piece=one), why(way, piece=other))
            self.assertEqual(why(way, piece=joined_piece(one, other)), found)

    def test_deep_ways(self):
        book = BOOKS[1]
        way = Way(book, nested("one", 99, Term("o")), [[(1,) * at for at in range(99)]])
        self.assertEqual([why(way), why(way, piece=Term("_")).text()], [way.start, "_"])
        self.assertEqual([piece.text() for piece in run_on(way, nested("one", 98, Term("_")))][1], "_")
        self.assertEqual(standing(way, nested("one", 98, Term("_"))), [way.lots()[0][:98]])
        chained = Way(TWO, chain(9), upper(9, 9).lots())
        self.assertEqual(why(chained), chained.start)
        self.assertEqual(why(chained, piece=chained.end.with_sub((1,), Term("_"))), chained.start)
        self.assertEqual(why(chained, piece=Term.read("pair(_,pair(_,_))")).text(), "two(two(_))")

    def test_wrong_values(self):
        for value in ANY_VALUES[1:] + [Term.read("s(s(s(_)))"), Term.read("s(X)"), Term("X"), START]:
            self.raises("NotPiece", [], why, WAY, piece=value)
        with self.assertRaises(TypeError):
            why(WAY, Term("_"))


if __name__ == "__main__":
    unittest.main()
