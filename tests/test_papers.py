"""Papers of squares, of why a piece is there, and of rests."""

import random
import unittest

from remainways import papers, rests
from remainways.books import Book
from remainways.papers import rest_paper, squares_paper, why_paper
from remainways.terms import Term
from remainways.ways import Way
from tests.helper import ANY_VALUES, BOOKS, Case, cases
from tests.paperwords import rest_by_lines, squares_by_lines, why_by_lines
from tests.piecewords import random_piece
from tests.test_rests import RINGS
from tests.test_steps import NO_STARTS
from tests.test_why import START as SUM
from tests.test_why import WAY, WAYS
from tests.waywords import STRIKING, chain, great_start, lower, random_ways, strangers, upper

BOOK = Book.read("1 two(X) -> pair(X,X)\n")
START = Term.read("two(two(o))")
PAIRS = random_ways(90, 2701, 2, 3)


def pieces_of_ends(seed, many=3):
    """Pairs of a way and a piece of its end."""
    dice = random.Random(seed)
    return [(way, random_piece(dice, way.end)) for way in WAYS for _ in range(many)]


class SquaresTest(Case):
    def test_an_ordinary_paper(self):
        one, other = Way.read(BOOK, START, ".;1"), Way.read(BOOK, START, "1")
        wanted = ["squares", "start two(two(o))", "one .;1", "other 1", "corner 0 0 two(two(o)) - -", "corner 0 1 two(pair(o,o)) - 1",
                  "corner 1 0 pair(two(o),two(o)) . -", "corner 1 1 pair(pair(o,o),pair(o,o)) . 1+2", "corner 2 0 pair(pair(o,o),two(o)) 1 -",
                  "corner 2 1 pair(pair(o,o),pair(o,o)) 0 2", "left .;0 2"]
        self.assert_equal(squares_paper(one, other), wanted)
        self.assert_equal(squares_paper(one=one, other=other), wanted)

    def test_ways_without_lots(self):
        way, empty = Way.read(BOOK, START, "1;0"), Way(BOOK, START)
        self.assert_equal(squares_paper(empty, empty), ["squares", "start two(two(o))", "one -", "other -", "corner 0 0 two(two(o)) - -", "left - -"])
        self.assert_equal(squares_paper(empty, way)[4:], ["corner 0 0 two(two(o)) - -", "corner 0 1 two(pair(o,o)) - 1",
                                                          "corner 0 2 two(pair(o,o)) - 0", "left - 1;0"])
        self.assert_equal(squares_paper(way, empty)[4:], ["corner 0 0 two(two(o)) - -", "corner 1 0 two(pair(o,o)) 1 -",
                                                          "corner 2 0 two(pair(o,o)) 0 -", "left 1;0 -"])

    def test_by_words(self):
        for one, other in PAIRS:
            self.assert_equal(squares_paper(one, other), squares_by_lines(one.book, one.start, one.lots(), other.lots()))

    def test_very_many_lots(self):
        way = Way(Book.read("1 ring -> ring\n"), Term("ring"), [[()]] * 30)
        found = squares_paper(way, way)
        self.assertEqual([len(found), found[4 + 31 * 30 + 30]], [5 + 31 * 31, "corner 30 30 ring 0 0"])
        self.assertEqual(found[4 + 31 * 7 + 12], "corner 7 12 ring 0 .")

    def test_errors_in_their_order(self):
        way = Way.read(BOOK, START, ".")
        for other in strangers(way):
            if other.lots() != way.lots() or other.book != way.book or other.start != way.start:
                if (other.book, other.start) != (BOOK, START):
                    self.raises("OtherStart", [], squares_paper, way, other)
                    self.raises("OtherStart", [], squares_paper, other, way)
        self.raises("TooGreat", [], squares_paper, upper(11, 6), lower(11, 5))
        self.raises("TooGreat", [], squares_paper, lower(11, 5), upper(11, 6))
        self.assertEqual(len(squares_paper(upper(11, 6), lower(11, 3))), 4 + 2 * 4 + 1)
        great = Way(STRIKING, great_start(40), [[(1,)], [()]])
        doubled = Way(STRIKING, great_start(18), [[(2,) + (1,) * at for at in range(6)], [(1,)]])
        lowest = Way(STRIKING, great_start(18), [[(2,) + (1,) * at] for at in range(17, 8, -1)])
        self.assertEqual(len(squares_paper(great, great)), 14)
        self.assertEqual(len(squares_paper(great, Way(STRIKING, great_start(40)))), 8)
        for one, other in ((doubled, lowest), (lowest, doubled)):
            self.raises("TooGreat", [], squares_paper, one, other)


class WhyTest(Case):
    def test_an_ordinary_paper(self):
        wanted = ["why", "start mul(s(s(o)),add(s(o),o))", "way .+2;.+1.1+2+2.2.1;1+1.2+1.2.2;1.1", "piece s(_)", "run mul(s(_),add(s(_),_))",
                  "run add(s(add(_,_)),mul(_,s(add(_,_))))", "run s(add(add(_,_),_))", "run s(_)", "run s(_)", "less . _", "less 1 _", "less 2 _", "less 2.1 _"]
        found = why_paper(WAY, Term.read("s(_)"))
        self.assertEqual([found[:5], found[5][:4], len(found)], [wanted[:5], "run ", len(wanted)])
        self.assert_equal(found, why_by_lines(WAY.book, SUM, WAY.lots(), Term.read("s(_)")))
        self.assert_equal(why_paper(way=WAY, piece=Term.read("s(_)")), found)

    def test_blanks(self):
        self.assert_equal(why_paper(WAY, Term("_"))[3:], ["piece _"] + ["run _"] * 5)

    def test_ways_without_lots(self):
        way = Way(BOOK, START)
        self.assert_equal(why_paper(way, Term.read("two(_)")), ["why", "start two(two(o))", "way -", "piece two(_)", "run two(_)", "less . _"])
        self.assert_equal(why_paper(way, START)[4:], ["run two(two(o))", "less . _", "less 1 two(_)", "less 1.1 two(two(_))"])

    def test_by_words(self):
        for way, piece in pieces_of_ends(1):
            self.assert_equal(why_paper(way, piece), why_by_lines(way.book, way.start, way.lots(), piece))
            self.assert_equal(why_paper(way, way.end), why_by_lines(way.book, way.start, way.lots(), way.end))

    def test_values_that_are_no_pieces(self):
        for value in ANY_VALUES + [Term("X"), Term.read("s(X)"), Term.read("s(s(s(_)))"), Term.read("s(_,_)"), "s(_)", Term.read("mul(_,_)"), WAY]:
            self.raises("NotPiece", [], why_paper, WAY, value)
        way = Way(BOOK, START, [[()]])
        for text in ("two(two(o))", "pair(X,_)", "pair(o,_)", "pair(_)"):
            self.raises("NotPiece", [], why_paper, way, Term.read(text))


class RestTest(Case):
    def test_ordinary_papers(self):
        self.assert_equal(rest_paper(BOOK, START), ["rest", "start two(two(o))", "rounds 60", "layer .+1 pair(pair(o,o),pair(o,o))", "rest"])
        self.assert_equal(rest_paper(book=BOOK, term=Term("o"), rounds=1), ["rest", "start o", "rounds 1", "rest"])
        self.assert_equal(rest_paper(RINGS, Term("a"), rounds=200), ["rest", "start a", "rounds 200", "layer . b", "layer . c", "layer . d", "layer . b", "ring 1"])
        self.assert_equal(rest_paper(RINGS, Term("a"), rounds=2), ["rest", "start a", "rounds 2", "layer . b", "layer . c", "open"])
        self.assert_equal([len(rest_paper(BOOK, chain(9), rounds=1)), rest_paper(BOOK, chain(9))[-1]], [5, "rest"])
        self.assert_equal(rest_paper(BOOK, chain(11))[2:], ["rounds 60", "great"])

    def test_by_words(self):
        for book, start, steps in cases(120, 2702) + [(RINGS, Term.read(text), []) for text in ("f(a,b)", "up(o)", "run(o,s(s(s(o))))", "d")]:
            for rounds in (1, 2, 7):
                self.assert_equal(rest_paper(book, start, rounds=rounds), rest_by_lines(book, start, rounds))

    def test_errors_in_their_order(self):
        for value in NO_STARTS:
            self.raises("InvalidTerm", [], rest_paper, BOOK, value)
            self.raises("InvalidTerm", [], rest_paper, BOOK, value, rounds=0)
        for value in [value for value in ANY_VALUES if value is True or value not in (1, 5)] + [0, False, -5, 201, 10 ** 9, "60"]:
            self.raises("InvalidNumber", [value], rest_paper, BOOK, START, rounds=value)
            self.raises("InvalidNumber", [value], rest_paper, BOOK, Term("o"), rounds=value)
        with self.assertRaises(TypeError):
            rest_paper(BOOK, START, 60)
        self.assertEqual([papers.ROUNDS, rests.ROUNDS], [60, 60])

    def test_lists_that_are_told_are_new(self):
        one = Way.read(BOOK, START, ".")
        calls = ((squares_paper, one, one), (why_paper, one, Term("_")), (rest_paper, BOOKS[2], START))
        for call, *told in calls:
            found = call(*told)
            again = list(found)
            found.clear()
            self.assert_equal(call(*told), again)


if __name__ == "__main__":
    unittest.main()
