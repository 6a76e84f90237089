"""Gaps: what no rule of a doer fits on."""

import itertools
import random
import unittest

from remainways.books import Book
from remainways.gaps import gaps
from remainways.pieces import is_piece_of
from remainways.terms import Term
from tests.helper import ANY_VALUES, BOOKS, Case, rule_by_words
from tests.lookwords import MAKERS, drawn_term, gaps_by_words
from tests.test_looks import ROUND, WITH_TREE, WITHOUT

SUMS = BOOKS[3]
BOOK = Book.read("1 k(p(a,X),b) -> o\n1 k(p(b,s(X)),Y) -> o\n1 k(a,a) -> o\n1 n -> a\n1 one(X) -> X\n")


def texts(book, doer, makers):
    """The texts of the gaps."""
    return [gap.text() for gap in gaps(book, doer, makers)]


def some_makers(dice):
    """A list of makers, some of which no book has."""
    makers = MAKERS + [("t", 0), ("q", 3)]
    return dice.sample(makers, dice.randint(0, len(makers)))


class GapsTest(Case):
    def test_the_example(self):
        self.assert_equal(texts(SUMS, ("add", 2), [("o", 0), ("t", 0)]), ["add(t,_)"])
        self.assert_equal([gap.text() for gap in gaps(book=SUMS, doer=("mul", 2), makers=(("pair", 2), ("s", 1)))], ["mul(pair(_,_),_)"])

    def test_their_order(self):
        # At each look the signs of the list in its order, then the branches in theirs, also of a sign not in the list.
        self.assert_equal(texts(BOOK, ("k", 2), [("s", 1), ("b", 0), ("a", 0)]),
                          ["k(s(_),_)", "k(b,_)", "k(a,s(_))", "k(a,b)", "k(p(s(_),_),_)", "k(p(a,_),s(_))", "k(p(a,_),a)",
                           "k(p(b,b),_)", "k(p(b,a),_)"])
        self.assert_equal(texts(BOOK, ("k", 2), [("p", 2)]), ["k(a,p(_,_))", "k(p(p(_,_),_),_)", "k(p(a,_),p(_,_))", "k(p(b,p(_,_)),_)"])
        self.assert_equal(texts(BOOK, ("k", 2), [("c", 0), ("a", 4)]),
                          ["k(c,_)", "k(a(_,_,_,_),_)", "k(a,c)", "k(a,a(_,_,_,_))", "k(p(c,_),_)", "k(p(a(_,_,_,_),_),_)",
                           "k(p(a,_),c)", "k(p(a,_),a(_,_,_,_))", "k(p(b,c),_)", "k(p(b,a(_,_,_,_)),_)"])

    def test_no_gaps(self):
        for doer in (("n", 0), ("one", 1)):
            self.assert_equal(gaps(BOOK, doer, MAKERS), [])
        self.assert_equal(gaps(BOOK, ("k", 2), []), [])
        self.assert_equal(gaps(BOOK, ("k", 2), ()), [])
        self.assert_equal(gaps(SUMS, ("add", 2), [("o", 0), ("s", 1)]), [])

    def test_by_words(self):
        dice = random.Random(1)
        for book, doer in WITH_TREE:
            makers = some_makers(dice)
            wanted = gaps_by_words(book, doer, makers)
            self.assert_equal(texts(book, doer, makers), wanted)
            self.assert_equal(texts(book, doer, tuple(makers)), wanted)

    def test_a_rule_fits_or_just_one_gap_is_a_piece(self):
        dice = random.Random(2)
        met = {True: 0, False: 0}
        for book, doer in WITH_TREE:
            makers = MAKERS + [("t", 0)]
            pieces = gaps(book, doer, makers)
            for _ in range(12):
                term = Term(doer[0], *[drawn_term(dice, 4, [], makers) for _ in range(doer[1])])
                fits = rule_by_words(book, term, ()) is not None
                self.assertEqual(len([piece for piece in pieces if is_piece_of(piece, term)]), 0 if fits else 1)
                met[fits] += 1
        self.assertGreater(min(met.values()), 200)

    def test_all_small_terms(self):
        makers = [("a", 0), ("b", 0), ("s", 1)]
        small = [Term("a"), Term("b"), *[Term("s", inner) for inner in (Term("a"), Term("b"), Term("s", Term("a")))]]
        small += [Term("p", one, other) for one, other in itertools.product(small, repeat=2)]
        pieces = gaps(BOOK, ("k", 2), makers + [("p", 2)])
        for one, other in itertools.product(small, repeat=2):
            term = Term("k", one, other)
            fits = rule_by_words(BOOK, term, ()) is not None
            self.assertEqual(len([piece for piece in pieces if is_piece_of(piece, term)]), 0 if fits else 1)

    def test_errors_of_trees_come_first(self):
        split = Book.read("1 f(g(s(X))) -> o\n1 g(o) -> o\n")
        for doer in [("f", 1), ("g", 1), ("x", 0)] + ANY_VALUES:
            self.raises("NotSplit", [0, (1,)], gaps, split, doer, [None])
        for value in ANY_VALUES + [("add", 1), ["add", 2]]:
            self.raises("UnknownDoer", [value], gaps, SUMS, value, [None])
            self.raises("UnknownDoer", [value], gaps, Book(), value, [])
        self.raises("NoTree", [("g", 3), (0, 1, 2), Term.read("g(_,_,_)")], gaps, Book.read(ROUND), ("g", 3), [None])
        for book, doer in WITHOUT[:20]:
            with self.assertRaises(ValueError) as caught:
                gaps(book, doer, [("s", 1), ("s", 1)])
            self.assertEqual([caught.exception.code, caught.exception.doer], ["NoTree", doer])

    def test_wrong_makers(self):
        wrong = ANY_VALUES + [("s",), ("s", 1, 1), ["s", 1], ("S", 1), ("s", 5), ("s", -1), ("s", True), ("s", "1"), (None, 1),
                              ("abcdefghi", 1), ("s", None), ([], 1), ("s", 10 ** 30), ("add", 2), ("mul", 2), ("o", 0), ("s", 4)]
        for value in wrong:
            if not (isinstance(value, tuple) and value[:1] == ("a",) and repr(value) == "('a', 1)") and value != ("s", 4):
                self.raises("InvalidMaker", [2], gaps, SUMS, ("add", 2), [("o", 0), ("s", 4), value])
                self.raises("InvalidMaker", [2], gaps, SUMS, ("add", 2), (("o", 0), ("s", 4), value, None))
                if value != ("o", 0):
                    self.raises("InvalidMaker", [0], gaps, SUMS, ("mul", 2), [value, value])
        self.raises("InvalidMaker", [1], gaps, SUMS, ("add", 2), [("t", 1), ("t", 1), None])
        self.raises("InvalidMaker", [3], gaps, SUMS, ("add", 2), [("t", 1), ("t", 0), ("u", 1), ("t", 1)])
        # A doer of the book is wrong for each of its doers; with another number of arguments it is a maker.
        self.raises("InvalidMaker", [0], gaps, BOOK, ("n", 0), [("k", 2)])
        self.assert_equal(gaps(BOOK, ("n", 0), [("k", 1), ("n", 1), ("s", 4), ("s", 0)]), [])
        self.assert_equal(texts(SUMS, ("add", 2), [("s", 4), ("s", 0), ("abcdefgh", 0)]), ["add(s(_,_,_,_),_)", "add(s,_)", "add(abcdefgh,_)"])

    def test_nothing_is_changed(self):
        makers = [("o", 0), ("t", 0)]
        found = gaps(SUMS, ("add", 2), makers)
        found.clear()
        self.assert_equal([texts(SUMS, ("add", 2), makers), makers], [["add(t,_)"], [("o", 0), ("t", 0)]])


if __name__ == "__main__":
    unittest.main()
