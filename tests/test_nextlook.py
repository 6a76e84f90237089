"""The next place, blocked terms, and ways by looks."""

import inspect
import random
import unittest

from remainways.books import Book
from remainways.needs import needed
from remainways.nextlook import by_looks, is_blocked, next_place
from remainways.rests import full_layers, rest_of
from remainways.steps import step_places
from remainways.terms import Term
from remainways.ways import Way
from tests.helper import ANY_VALUES, BOOKS, Case, done_by_words, nested, places_by_words, sized, steps_by_words
from tests.lookwords import (DOERS, MAKERS, drawn_term, first_without_tree, is_rest, looked_by_words, next_by_words,
                             random_books, stopped_by_words)
from tests.test_looks import ROUND, WITHOUT
from tests.test_steps import NO_STARTS

SUMS = BOOKS[3]
# Rings, terms that spin without end, what is looked at in the second place, and a stop.
BOOK = Book.read("1 ring -> ring\n1 spin(X) -> spin(s(X))\n1 both(a,b) -> c\n1 both(s(X),Y) -> both(X,Y)\n1 fan(X) -> p(X,X)\n"
                 "1 fst(p(X,Y)) -> X\n1 snd(X,s(Y)) -> Y\n")
DRAWN = [book for book in random_books(300, 2301) if len(book) and first_without_tree(book) is None]


def drawn_terms(many, seed):
    """So many pairs of a book whose doers have trees, and a plain term."""
    dice = random.Random(seed)
    return [(book, drawn_term(dice, dice.randint(1, 5), DOERS, MAKERS)) for book in dice.choices(DRAWN, k=many)]


CASES = drawn_terms(1200, 2302)


class NextTest(Case):
    def test_ordinary_terms(self):
        rows = ((SUMS, "mul(s(s(o)),add(s(o),o))", ()), (SUMS, "add(mul(o,o),add(o,o))", (1,)), (SUMS, "s(s(add(o,o)))", (1, 1)),
                (SUMS, "add(add(mul(s(o),o),o),o)", (1, 1)), (SUMS, "s(o)", None), (SUMS, "pair(o,add(o,o))", (2,)),
                (BOOK, "both(ring,b)", (1,)), (BOOK, "both(a,ring)", (2,)), (BOOK, "both(s(a),ring)", ()), (BOOK, "c", None),
                (BOOK, "snd(ring,s(a))", ()), (BOOK, "snd(ring,fan(a))", (2,)), (Book(), "f(a,b)", None))
        for book, text, wanted in rows:
            self.assert_equal(next_place(book, Term.read(text)), wanted)
            self.assert_equal(next_place(book=book, term=Term.read(text)), wanted)

    def test_blocked_terms(self):
        # A blocked doer is passed by: its arguments are gone through, and those of what is above it.
        rows = (("both(b,ring)", True, (2,)), ("both(b,b)", True, None), ("both(both(b,fan(ring)),b)", True, (1, 2)),
                ("both(a,fst(a))", True, None), ("fst(both(c,ring))", True, (1, 2)), ("fst(fan(both(c,ring)))", False, (1,)),
                ("p(both(b,a),ring)", False, (2,)), ("both(snd(fan(a),b),fan(a))", True, (1, 1)), ("ring", False, ()), ("b", False, None),
                ("fst(s(ring))", True, (1, 1)), ("snd(both(a,b),both(b,b))", True, (1,)))
        for text, blocked, wanted in rows:
            term = Term.read(text)
            self.assertIs(is_blocked(BOOK, term), blocked)
            self.assertIs(is_blocked(book=BOOK, term=term), blocked)
            self.assert_equal(next_place(BOOK, term), wanted)

    def test_by_words(self):
        met = {True: 0, False: 0}
        for book, term in CASES:
            self.assert_equal(next_place(book, term), next_by_words(book, term))
            doer = bool(book.rules_for(term.sign()))
            wanted = doer and looked_by_words(book, term) == "blocked"
            self.assertIs(is_blocked(book, term), wanted)
            met[wanted] += 1
        self.assertGreater(min(met.values()), 60)

    def test_doers_beneath_doers(self):
        self.assert_equal(next_place(BOOK, nested("fst", 99, Term("ring"))), (1,) * 99)
        self.assertIs(is_blocked(BOOK, nested("fst", 99, Term("b"))), True)
        self.assertIsNone(next_place(BOOK, nested("fst", 99, Term("b"))))
        self.assert_equal(next_place(BOOK, nested("fst", 98, Term("fan", Term("b")))), (1,) * 98)
        self.assertIsNone(next_place(BOOK, Term("p", sized(1998), Term("a"))))


class FactsTest(Case):
    def test_the_next_place_is_a_step_place(self):
        for book, term in CASES:
            found = next_place(book, term)
            steps = steps_by_words(book, term)
            self.assertTrue(found in steps if steps else found is None)
            self.assertIs(found is None, is_rest(book, term))

    def test_a_blocked_term_never_has_a_step_at_its_top(self):
        dice = random.Random(1)
        met = 0
        for book, term in CASES:
            if is_blocked(book, term):
                for _ in range(6):
                    steps = steps_by_words(book, term)
                    self.assertNotIn((), steps)
                    if steps and term.size() < 60:
                        term = done_by_words(book, term, [dice.choice(steps)])
                        met += 1
        self.assertGreater(met, 100)

    def test_the_next_place_is_needed(self):
        met = 0
        for book, term in CASES:
            word, way, index = full_layers(book, term, rounds=12)
            if word == "rest" and len(way) > 0:
                self.assertIn(next_place(book, term), needed(book, term, rounds=12))
                met += 1
        self.assertGreater(met, 60)

    def test_looks_lead_to_the_rest(self):
        met = 0
        for book, term in CASES:
            word, way, index = full_layers(book, term, rounds=8)
            if word == "rest" and way.end.size() < 60:
                found = by_looks(book, term, most=400)
                self.assertEqual([found.end, step_places(book, found.end)], [way.end, []])
                met += 1
        self.assertGreater(met, 60)


class WaysTest(Case):
    def test_ordinary_ways(self):
        way = by_looks(SUMS, Term.read("mul(s(s(o)),add(s(o),o))"))
        self.assertEqual([way.text(), way.end.text()], [".;1;.;1.1;1;1;1.1;1;1.1.1;1.1;1.1", "s(s(o))"])
        way = by_looks(book=SUMS, term=Term.read("s(o)"), most=0)
        self.assertEqual([way, way.text()], [Way(SUMS, Term.read("s(o)")), "-"])

    def test_by_words(self):
        for book, term in CASES[:200]:
            lots, behind = [], term
            while len(lots) < 7 and behind.size() < 200 and next_by_words(book, behind) is not None:
                lots.append((next_by_words(book, behind),))
                behind = done_by_words(book, behind, lots[-1])
            for most in {0, 1, len(lots)}:
                found = by_looks(book, term, most=most)
                self.assertEqual([found.book, found.start], [book, term])
                self.assert_equal(found.lots(), lots[:most])

    def test_just_as_many_steps_as_there_are(self):
        start = Term.read("mul(s(s(o)),add(s(o),o))")
        whole = by_looks(SUMS, start)
        for most in range(14):
            found = by_looks(SUMS, start, most=most)
            self.assertEqual([len(found), found.lots()], [min(most, 11), whole.lots()[:most]])

    def test_looks_that_never_end(self):
        for most in (0, 1, 200, 399, 400):
            self.assertEqual(by_looks(BOOK, Term("ring"), most=most).lots(), [((),)] * most)
        self.assertEqual(len(by_looks(BOOK, Term("ring"))), 200)
        self.assertEqual(inspect.signature(by_looks).parameters["most"].default, 200)
        self.assertEqual(by_looks(BOOK, Term.read("both(s(s(ring)),b)")).lots(), [((),), ((),)] + [((1,),)] * 198)

    def test_terms_that_are_not_fit(self):
        start = Term.read("spin(a)")
        self.assertEqual([len(by_looks(BOOK, start, most=98)), by_looks(BOOK, start, most=98).end.levels], [98, 100])
        self.raises("TooGreat", [], by_looks, BOOK, start, most=99)
        self.raises("TooGreat", [], by_looks, BOOK, start)
        self.assertEqual(len(by_looks(BOOK, Term("fan", sized(999)))), 1)
        self.raises("TooGreat", [], by_looks, BOOK, Term("fan", sized(1000)))
        self.assertEqual(rest_of(BOOK, Term("fan", sized(999))).size(), 1999)


class ErrorsTest(Case):
    def calls(self):
        """The three functions, the last one with a wrong number."""
        return ((next_place, {}), (is_blocked, {}), (by_looks, {}), (by_looks, {"most": -1}))

    def test_values_that_are_no_starts(self):
        unsplit = Book.read("1 f(g(s(X))) -> o\n1 g(o) -> o\n")
        for call, named in self.calls():
            for value in NO_STARTS:
                for book in (SUMS, unsplit, Book.read(ROUND)):
                    self.raises("InvalidTerm", [], call, book, value, **named)

    def test_books_that_are_not_split(self):
        # The rules of g are stuck, too, and t comes ahead of both.
        unsplit = Book.read(ROUND + "1 t(a,b,X) -> o\n1 t(X,a,b) -> o\n1 h(s(g(c,c,c))) -> o\n1 t(b,X,a) -> o\n")
        for call, named in self.calls():
            for term in (Term("o"), Term.read("g(a,b,o)"), Term.read("h(o)")):
                self.raises("NotSplit", [5, (1, 1)], call, unsplit, term, **named)

    def test_the_least_doer_without_a_tree(self):
        book = Book.read(ROUND.replace("g", "z") + ROUND.replace("g", "h") + "1 a(X) -> X\n1 ring -> ring\n")
        for call, named in self.calls():
            for term in (Term("o"), Term("ring"), Term.read("a(o)")):
                self.raises("NoTree", [("h", 3), (3, 4, 5), Term.read("h(_,_,_)")], call, book, term, **named)
        for book in [book for book, doer in WITHOUT]:
            doer = first_without_tree(book)
            sides, text, places = stopped_by_words(book, doer)
            for call, named in self.calls():
                self.raises("NoTree", [doer, sides, Term.read(text)], call, book, Term("o"), **named)

    def test_wrong_numbers(self):
        for value in [value for value in ANY_VALUES if value is True or value not in (0, 1, 5)] + [-5, 401, 10 ** 9, False]:
            for book, term in ((SUMS, Term("o")), (BOOK, Term("ring")), (BOOK, Term("fan", sized(1500)))):
                self.raises("InvalidNumber", [value], by_looks, book, term, most=value)
        with self.assertRaises(TypeError):
            by_looks(SUMS, Term("o"), 5)

    def test_nothing_is_changed(self):
        start = Term.read("mul(s(o),o)")
        found = by_looks(SUMS, start)
        found.lots().clear()
        self.assertEqual([by_looks(SUMS, start), len(found.lots()), start.text(), len(places_by_words(start))], [found, 3, "mul(s(o),o)", 4])
        self.assertEqual(SUMS.text(), BOOKS[3].text())


if __name__ == "__main__":
    unittest.main()
