"""Pieces of terms: common ones, joined ones, blanks at places."""

import itertools
import random
import unittest

from remainways.pieces import common_piece, is_piece_of, joined_piece, named_places, without_sign
from remainways.terms import Term
from tests.helper import ANY_VALUES, BOOKS, Case, cases, nested, places_by_words, random_term, shared
from tests.piecewords import (all_pieces, count_pieces, is_piece_by_parts, joined_by_words, named_by_words,
                              random_piece)

TERM = Term.read("f(g(a,b),s(o))")
TERMS = [term for book, term, steps in cases(150, 701)]


class PieceTest(Case):
    def test_ordinary_pieces(self):
        for text in ("_", "f(_,_)", "f(g(_,b),_)", "f(_,s(_))", "f(g(a,b),s(o))", "f(g(_,_),s(o))"):
            self.assertIs(is_piece_of(piece=Term.read(text), term=TERM), True)
        for text in ("a", "f", "f(_)", "f(_,_,_)", "g(_,_)", "f(g(b,_),_)", "f(g(a,b),o)", "f(g(a,b),s(o,_))", "X", "f(X,_)",
                     "f(g(a,b),s(X))", "s(_)"):
            self.assertIs(is_piece_of(Term.read(text), TERM), False)

    def test_pieces_of_terms_with_blanks(self):
        piece = Term.read("f(_,s(o))")
        for text, found in (("_", True), ("f(_,_)", True), ("f(_,s(o))", True), ("f(a,s(o))", False), ("f(_,s(s(_)))", False)):
            self.assertIs(is_piece_of(Term.read(text), piece), found)
        self.assertIs(is_piece_of(Term("_"), Term("_")), True)
        self.assertIs(is_piece_of(Term("a"), Term("_")), False)

    def test_any_values(self):
        for value in ANY_VALUES:
            self.assertIs(is_piece_of(value, TERM), False)
            self.assertIs(is_piece_of(value, Term("a")), isinstance(value, Term))

    def test_all_pieces_of_small_terms(self):
        texts = ("a", "s(s(a))", "f(a,s(b))", "f(g(a,b),b)")
        for one, other in itertools.product(texts, texts):
            pieces = all_pieces(Term.read(one))
            self.assertEqual(len(set(piece.text() for piece in pieces)), count_pieces(Term.read(one)))
            wanted = [piece.text() for piece in all_pieces(Term.read(other))]
            for piece in pieces:
                self.assertIs(is_piece_of(piece, Term.read(other)), piece.text() in wanted)

    def test_drawn_pieces_by_words(self):
        dice = random.Random(1)
        for one, other in zip(TERMS, TERMS[1:] + TERMS[:1]):
            piece = random_piece(dice, one)
            self.assertIs(is_piece_of(piece, one), True)
            self.assertIs(is_piece_of(piece, other), is_piece_by_parts(piece, other))
            less = random_piece(dice, piece)
            self.assertIs(is_piece_of(less, piece), True)
            self.assertIs(is_piece_of(piece, less), piece == less)

    def test_great_terms(self):
        great, deep = shared("p", 90, Term("o")), nested("s", 5000, Term("o"))
        self.assertEqual([is_piece_of(great, great), is_piece_of(shared("p", 90, Term("_")), great)], [True, True])
        self.assertEqual([is_piece_of(great, shared("p", 91, Term("o"))), is_piece_of(great, deep)], [False, False])
        self.assertEqual([is_piece_of(deep, deep), is_piece_of(nested("s", 4000, Term("_")), deep)], [True, True])
        self.assertIs(is_piece_of(great.with_sub((2,) * 90, Term("a")), great), False)


class CommonTest(Case):
    def test_ordinary_pieces(self):
        rows = (("f(a,b)", "f(a,c)", "f(a,_)"), ("f(a,b)", "g(a,b)", "_"), ("f(a)", "f(a,a)", "_"), ("_", "a", "_"),
                ("f(g(a),_)", "f(g(b),s(o))", "f(g(_),_)"), ("a", "a", "a"))
        for one, other, wanted in rows:
            self.assertEqual(common_piece(Term.read(one), Term.read(other)).text(), wanted)
            self.assertEqual(common_piece(one=Term.read(other), other=Term.read(one)).text(), wanted)

    def test_the_greatest_piece_of_both(self):
        dice = random.Random(2)
        for one, other in zip(TERMS, TERMS[1:] + TERMS[:1]):
            twin = one.with_sub(dice.choice(places_by_words(one)), other)
            for left, right in ((one, other), (one, twin), (random_piece(dice, one), twin)):
                found = common_piece(left, right)
                self.assertEqual(found, left & right)
                self.assertEqual([is_piece_of(found, left), is_piece_of(found, right)], [True, True])
                less = random_piece(dice, left)
                self.assertIs(is_piece_of(less, found), is_piece_of(less, right))


class JoinTest(Case):
    def test_ordinary_pieces(self):
        rows = (("f(a,_)", "f(_,b)", "f(a,b)"), ("_", "f(a,_)", "f(a,_)"), ("_", "_", "_"), ("a", "a", "a"),
                ("f(g(_,b),_)", "f(g(a,_),s(_))", "f(g(a,b),s(_))"), ("f(a,b)", "f(a,b)", "f(a,b)"))
        for one, other, wanted in rows:
            self.assertEqual(joined_piece(Term.read(one), Term.read(other)).text(), wanted)
            self.assertEqual(joined_piece(one=Term.read(other), other=Term.read(one)).text(), wanted)

    def test_drawn_pieces_by_words(self):
        dice = random.Random(3)
        for term in TERMS:
            one, other, third = (random_piece(dice, term) for _ in range(3))
            found = joined_piece(one, other)
            self.assertEqual(found, joined_by_words(one, other))
            self.assertEqual(set(named_by_words(found)), set(named_by_words(one)) | set(named_by_words(other)))
            self.assertEqual([is_piece_of(part, found) for part in (one, other)], [True, True])
            self.assertIs(is_piece_of(found, term), True)
            self.assertEqual(joined_piece(found, third), joined_piece(one, joined_piece(third, other)))

    def test_clashes(self):
        rows = (("a", "b", ()), ("f(a)", "f(a,b)", ()), ("f(a,b)", "f(a,c)", (2,)), ("f(a,b)", "f(c,d)", (1,)),
                ("f(s(a),b)", "f(s(c),d)", (1, 1)), ("f(s(_),g(a,b))", "f(s(c),g(a,_,_))", (2,)),
                ("f(_,s(s(a)),b)", "f(a,s(s(b)),c)", (2, 1, 1)), ("f(a,s(s(a)),b)", "f(a,_,c)", (3,)))
        for one, other, place in rows:
            self.raises("Clash", [place], joined_piece, Term.read(one), Term.read(other))
            self.raises("Clash", [place], joined_piece, Term.read(other), Term.read(one))

    def test_the_least_clash(self):
        dice = random.Random(4)
        for one, other in zip(TERMS, TERMS[1:] + TERMS[:1]):
            twin = one
            for _ in range(2):
                twin = twin.with_sub(dice.choice(places_by_words(twin)), dice.choice((other, Term("zz"), Term("_"))))
            one = random_piece(dice, one, 0.1)
            signs, others = ({place: part.sub(place).sign() for place in named_by_words(part)} for part in (one, twin))
            clashes = [place for place in sorted(signs) if others.get(place, signs[place]) != signs[place]]
            if clashes:
                self.raises("Clash", [clashes[0]], joined_piece, one, twin)
            else:
                self.assertEqual(joined_piece(one, twin), joined_by_words(one, twin))

    def test_great_pieces(self):
        great, blank = shared("p", 90, Term("o")), shared("p", 90, Term("_"))
        self.assertEqual(joined_piece(great, blank), great)
        left, right = blank.with_sub((1,), Term("_")), blank.with_sub((2,), great.sub((2,)))
        self.assertEqual(joined_piece(left, right), right)
        self.raises("Clash", [(1,) * 90], joined_piece, great, shared("p", 90, Term("a")))
        self.raises("Clash", [(2,) * 90], joined_piece, great, great.with_sub((2,) * 90, Term("a")))
        deep = nested("s", 3000, Term("_"))
        self.assertEqual(joined_piece(deep, nested("s", 2000, Term("_"))), deep)
        self.raises("Clash", [(1,) * 3000], joined_piece, nested("s", 3000, Term("a")), nested("s", 3000, Term("o")))

    def test_nothing_is_changed(self):
        one, other = Term.read("f(a,_)"), Term.read("f(_,b)")
        joined_piece(one, other)
        self.assertEqual([one.text(), other.text()], ["f(a,_)", "f(_,b)"])


class BlankTest(Case):
    def test_blanks_at_places(self):
        rows = (((), "_"), ((1,), "f(_,s(o))"), ((1, 2), "f(g(a,_),s(o))"), ((2,), "f(g(a,b),_)"), ((2, 1), "f(g(a,b),s(_))"))
        for place, wanted in rows:
            self.assertEqual(without_sign(TERM, place).text(), wanted)
        self.assertEqual(without_sign(piece=Term("_"), place=()).text(), "_")
        self.assertEqual(without_sign(Term.read("f(_,a)"), (1,)).text(), "f(_,a)")
        self.assertEqual(TERM.text(), "f(g(a,b),s(o))")

    def test_values_that_are_no_places(self):
        for value in ANY_VALUES + [(3,), (1, 3), (2, 1, 1), (1, True)]:
            if not (isinstance(value, tuple) and value in ((), (1,))) or repr(value) == "(True,)":
                self.raises("NoPlace", [value], without_sign, TERM, value)
        self.raises("NoPlace", [(1, 1)], without_sign, Term.read("f(_,a)"), (1, 1))

    def test_named_places(self):
        rows = (("_", []), ("a", [()]), ("f(_,s(_))", [(), (2,)]), ("f(g(_,b),s(o))", [(), (1,), (1, 2), (2,), (2, 1)]))
        for text, wanted in rows:
            self.assert_equal(named_places(Term.read(text)), wanted)
        self.assert_equal(named_places(piece=TERM), TERM.places())

    def test_drawn_pieces(self):
        dice = random.Random(5)
        for book in BOOKS:
            for _ in range(20):
                piece = random_piece(dice, random_term(dice, book, 4))
                found = named_places(piece)
                self.assert_equal(found, named_by_words(piece))
                found.append(None)
                self.assert_equal(named_places(piece), named_by_words(piece))
                for place in named_by_words(piece):
                    less = without_sign(piece, place)
                    self.assertEqual(named_places(less), [other for other in named_by_words(piece)
                                                          if other[:len(place)] != place])
                    self.assertIs(is_piece_of(less, piece) and less != piece, True)


if __name__ == "__main__":
    unittest.main()
