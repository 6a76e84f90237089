"""Looking papers over."""

import random
import unittest

from remainways.books import Book
from remainways.looker import first_wrong
from remainways.papers import rest_paper, squares_paper, why_paper
from remainways.terms import Term
from remainways.ways import Way
from tests.helper import ANY_VALUES, Case, cases, nested, sized
from tests.paperwords import first_wrong_by_words, squares_by_lines
from tests.test_papers import BOOK, PAIRS, START, pieces_of_ends
from tests.test_rests import RINGS
from tests.test_why import WAY
from tests.waywords import STRIKING, chain, great_start, lower, upper

SQUARES = squares_paper(Way.read(BOOK, START, ".;1"), Way.read(BOOK, START, "1"))
WHY = why_paper(WAY, Term.read("s(_)"))
REST = rest_paper(RINGS, Term("a"))
OPEN = rest_paper(RINGS, Term.read("up(o)"), rounds=3)
ORDINARY = ((BOOK, SQUARES), (WAY.book, WHY), (RINGS, REST), (RINGS, OPEN), (BOOK, rest_paper(BOOK, chain(11))))


def some_papers(seed, many):
    """Pairs of a book and a paper of it, of all three kinds."""
    dice = random.Random(seed)
    rows = [(one.book, squares_paper(one, other)) for one, other in PAIRS[:many]]
    rows += [(way.book, why_paper(way, piece)) for way, piece in pieces_of_ends(seed, 1)[:many]]
    rows += [(book, rest_paper(book, start, rounds=dice.choice((1, 2, 60)))) for book, start, steps in cases(many, seed)]
    return rows


PAPERS = some_papers(2801, 50)


class RightTest(Case):
    def test_papers_of_the_program(self):
        for book, paper in PAPERS + list(ORDINARY):
            for value in (paper, tuple(paper), list(paper)):
                self.assertIsNone(first_wrong(book, value))
            self.assertIsNone(first_wrong(book=book, value=paper))

    def test_in_another_book(self):
        self.assertEqual(first_wrong(Book(), SQUARES), 2)
        self.assertEqual(first_wrong(Book(), REST), 3)
        self.assertEqual(first_wrong(Book(), WHY), 2)
        # The book that has other dues has the same papers.
        self.assertIsNone(first_wrong(Book.read("5 two(X) -> pair(X,X)\n1 n -> o\n"), SQUARES))


class BentTest(Case):
    def test_a_line_that_is_changed(self):
        for book, paper in ORDINARY + tuple(PAPERS[::6]):
            for at, line in enumerate(paper):
                for other in (line + " ", " " + line, line + "x", line[:-1], line[1:], line.upper(), "", line + "\n", "squares", line.replace(" ", "  ", 1) + "."):
                    if other != line:
                        bent = paper[:at] + [other] + paper[at + 1:]
                        self.assert_equal(first_wrong(book, bent), first_wrong_by_words(book, bent))
                        if at > 3:
                            self.assertEqual(first_wrong(book, bent), at)

    def test_a_line_of_another_kind(self):
        for book, paper in ORDINARY:
            for at in range(len(paper)):
                for value in ANY_VALUES + [[paper[at]], (paper[at],), Term("o")]:
                    bent = paper[:at] + [value] + paper[at + 1:]
                    self.assert_equal([first_wrong(book, bent), first_wrong(book, tuple(bent))], [at, at])

    def test_a_line_that_is_left_out_or_put_in(self):
        for book, paper in ORDINARY + tuple(PAPERS[::6]):
            for at in range(len(paper)):
                short = paper[:at] + paper[at + 1:]
                self.assert_equal(first_wrong(book, short), first_wrong_by_words(book, short))
                for line in (paper[at], "rest", "", None, "left - -"):
                    long = paper[:at] + [line] + paper[at:]
                    self.assert_equal(first_wrong(book, long), first_wrong_by_words(book, long))
                    if line == "":
                        self.assertEqual(first_wrong(book, long), at)

    def test_papers_that_are_cut_off_or_too_long(self):
        for book, paper in ORDINARY + tuple(PAPERS[::4]):
            for many in range(len(paper)):
                self.assert_equal([first_wrong(book, paper[:many]), first_wrong(book, tuple(paper[:many]))], [many, many])
            for more in (["rest"], [None], paper, [paper[-1]], ["", ""]):
                self.assert_equal(first_wrong(book, paper + more), len(paper))

    def test_lines_that_are_exchanged(self):
        dice = random.Random(1)
        for book, paper in PAPERS:
            one, other = dice.randrange(len(paper)), dice.randrange(len(paper))
            bent = list(paper)
            bent[one], bent[other] = bent[other], bent[one]
            self.assert_equal(first_wrong(book, bent), first_wrong_by_words(book, bent))

    def test_lines_of_other_papers(self):
        dice = random.Random(2)
        met = {}
        for book, paper in PAPERS:
            for _ in range(4):
                bent = list(paper)
                beside = dice.choice([other for home, other in PAPERS if home == book])
                for at in range(len(bent)):
                    if dice.random() < 0.2 and at < len(beside):
                        bent[at] = beside[at]
                found = first_wrong(book, bent)
                self.assert_equal(found, first_wrong_by_words(book, bent))
                met[found] = met.get(found, 0) + 1
        self.assertGreater(len(met), 8)


class ValuesTest(Case):
    def test_values_that_are_no_lists(self):
        for value in [value for value in ANY_VALUES if not isinstance(value, (list, tuple))] + ["squares", {0: "rest"}, Way(BOOK, START), "\n".join(REST)]:
            self.assert_equal([first_wrong(BOOK, value), first_wrong(Book(), value)], [0, 0])
        for value in ([], (), [None], ["start o"], ["Rest"], ["rest "], [["rest"]], [5, 6], ["squares\n"], ["squares squares"], [True], [Term("rest")]):
            self.assert_equal(first_wrong(BOOK, value), 0)
        for word in ("squares", "why", "rest"):
            self.assert_equal([first_wrong(BOOK, [word]), first_wrong(BOOK, (word, None)), first_wrong(BOOK, [word, word])], [1, 1, 1])

    def test_starts_that_cannot_stand(self):
        texts = ("X", "_", "f(X)", "f(a,_)", "", "f(", "f()", "f(a,)", "f(a,b,c,d,e)", "f(a, b)", "o ", " o", "o\n", "O", "abcdefghi", "f(a)x", "1",
                 nested("s", 100, Term("o")).text(), sized(2001).text(), "o o")
        for word in ("squares", "why", "rest"):
            for text in texts:
                paper = [word, "start " + text, "one -", "other -"]
                self.assert_equal([first_wrong(BOOK, paper), first_wrong(BOOK, paper[:2])], [1, 1])
            for line in ("start", "starto", "o", "start  o", "Start o", "start\no", " start o", "term o", "begin o"):
                self.assert_equal(first_wrong(BOOK, [word, line]), 1)
            for term in (nested("s", 99, Term("o")), sized(2000)):
                self.assert_equal(first_wrong(BOOK, [word, "start " + term.text()]), 2)

    def test_ways_that_cannot_stand(self):
        # Wrong texts, places that are no step places, lots that are not ascending, and places that stand twice.
        texts = ("", ";", ".;", "1;;1", "1+", "+1", "-;1", "--", "-1", "00", "0;", "1.", "..", "5", "1 ", "1;1", "2", ".;.", ".;3", "1+.", ".+.", "1+1", ".;2+1",
                 ".;1+1", "1;.+1", "x", "two", ". 1", "0+1", "1+0", "1,2")
        for text in texts:
            for word, lines in (("squares", ["one "]), ("why", ["way "])):
                paper = [word, "start two(two(o))", lines[0] + text]
                self.assert_equal([first_wrong(BOOK, paper), first_wrong(BOOK, paper + ["other -", "left"])], [2, 2])
            paper = SQUARES[:3] + ["other " + text] + SQUARES[4:]
            self.assert_equal(first_wrong(BOOK, paper), 3)
        for text in ("-", "0", "0;0", ".", ".;1+2", "1;0;.", ".+1"):
            self.assert_equal(first_wrong(BOOK, ["squares", "start two(two(o))", "one " + text]), 3)
            self.assert_equal(first_wrong(BOOK, ["why", "start two(two(o))", "way " + text]), 3)
            self.assert_equal(first_wrong(BOOK, SQUARES[:3] + ["other " + text]), 4)
        for line in ("way .", "other .", "one", "one  .", "One .", "one\n.", "."):
            self.assert_equal(first_wrong(BOOK, SQUARES[:2] + [line] + SQUARES[3:]), 2)
        for line in ("one 1", "other", "others 1", "other  1"):
            self.assert_equal(first_wrong(BOOK, SQUARES[:3] + [line] + SQUARES[4:]), 3)
        for line in ("one -", "ways -", "way", "way  -"):
            self.assert_equal(first_wrong(BOOK, ["why", "start two(two(o))", line]), 2)

    def test_ways_with_a_term_that_is_not_fit(self):
        start = chain(11)
        full = "+".join(["."] + [".".join("1" * at) for at in range(1, 11)])
        for text, at in ((full, 2), (full + ";0", 2), ("0;" + full, 2), (full.rsplit("+", 4)[0], 3)):
            self.assert_equal(first_wrong(BOOK, ["squares", "start " + start.text(), "one " + text]), at)
            self.assert_equal(first_wrong(BOOK, ["why", "start " + start.text(), "way " + text]), at)
            self.assert_equal(first_wrong(BOOK, ["squares", "start " + start.text(), "one -", "other " + text]), at + 1)

    def test_corners_that_are_not_fit(self):
        for one, other in ((upper(11, 6), lower(11, 5)), (lower(11, 5), upper(11, 6)), (upper(11, 6), lower(11, 4))):
            lines = squares_by_lines(one.book, one.start, one.lots(), other.lots())
            wrong = len(lines) - 1
            self.assertIsNone(lines[-1])
            for tail in ([], [None], ["corner 1 1 o . ."], ["left - -"], lines[-2:-1], ["", ""]):
                self.assert_equal(first_wrong(one.book, lines[:-1] + tail), wrong)
            for many in range(wrong):
                self.assert_equal(first_wrong(one.book, lines[:many] + lines[many + 1:]), many if many < wrong - 1 else wrong - 1)
        great = Way(STRIKING, great_start(40), [[(1,)], [()]])
        self.assertIsNone(first_wrong(STRIKING, squares_paper(great, great)))

    def test_pieces_that_cannot_stand(self):
        for text in ("", "X", "s(X)", "s(s(s(_)))", "s(_,_)", "s", "o", "S", "s(", "s(_", "s()", "s(_))", "_ ", "__", "_(o)", "mul(_,_)", "s(s(O))", "s(_)\n",
                     sized(2001).text(), "s(t)"):
            self.assert_equal([first_wrong(WAY.book, WHY[:3] + ["piece " + text] + WHY[4:]), first_wrong(WAY.book, WHY[:3] + ["piece " + text])], [3, 3])
        for text in ("_", "s(_)", "s(s(_))", "s(s(o))"):
            self.assert_equal(first_wrong(WAY.book, WHY[:3] + ["piece " + text]), 4)
        for line in ("piece", "Piece _", "piece  _", "term _", "way _", "s(_)"):
            self.assert_equal(first_wrong(WAY.book, WHY[:3] + [line]), 3)

    def test_numbers_that_cannot_stand(self):
        for text in ("", "0", "00", "01", "060", "-1", "+1", "201", "999", "1000", "1 ", " 1", "1.0", "x", "1x", "1_0", "10 0", "None", "60\n", "1e1", "200000000000000000000"):
            for book, term in ((RINGS, "a"), (BOOK, "two(two(o))")):
                self.assert_equal([first_wrong(book, ["rest", "start " + term, "rounds " + text]), first_wrong(book, ["rest", "start " + term, "rounds " + text, "rest"])], [2, 2])
        for rounds in (1, 2, 9, 10, 60, 99, 100, 199, 200):
            for book, term in ((RINGS, Term.read("up(o)")), (BOOK, START), (RINGS, Term("a"))):
                paper = rest_paper(book, term, rounds=rounds)
                self.assertIsNone(first_wrong(book, paper))
                self.assert_equal(first_wrong(book, paper[:3]), 3)
        for line in ("round 5", "rounds", "rounds  5", "Rounds 5", "5"):
            self.assert_equal(first_wrong(RINGS, REST[:2] + [line] + REST[3:]), 2)

    def test_last_words(self):
        for word in ("rest", "ring", "ring 0", "ring 2", "ring 01", "ring 1 ", "open", "great", "", "ring -1"):
            self.assert_equal(first_wrong(RINGS, REST[:-1] + [word]), len(REST) - 1)
        # With fewer rounds the same lines end otherwise.
        shorter = ["rest", "start a", "rounds 2"] + REST[3:]
        self.assert_equal(first_wrong(RINGS, shorter), 5)
        self.assert_equal([first_wrong(RINGS, OPEN[:-1] + ["ring 0"]), first_wrong(RINGS, OPEN[:2] + ["rounds 4"] + OPEN[3:])], [6, 6])

    def test_nothing_is_changed(self):
        for book, paper in ORDINARY:
            value = list(paper) + [None]
            first_wrong(book, value)
            self.assert_equal(value, list(paper) + [None])


if __name__ == "__main__":
    unittest.main()
