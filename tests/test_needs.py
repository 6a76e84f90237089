"""Needed steps, ways around those that are not, and rests by needed steps alone."""

import random
import unittest

from remainways.books import Book
from remainways.lean import lean
from remainways.needs import around, needed, needed_rounds
from remainways.remains import alike, images
from remainways.rests import full_layers, rest_of
from remainways.steps import step_places
from remainways.terms import Term
from remainways.ways import Way
from tests.helper import ANY_VALUES, BOOKS, Case, cases, sized
from tests.piecewords import is_needed_by_search, lean_by_words, named_by_words, why_by_words
from tests.test_steps import NO_STARTS

BOOK = BOOKS[3]
START = Term.read("add(s(o),mul(o,add(s(o),o)))")
# Books that copy and strike, one of them with delays.
DELAYS = Book.read("1 u(X) -> v(X,X)\n1 v(X,Y) -> o\n1 w(k,X) -> o\n1 a -> b\n1 b -> c\n1 c -> k\n1 f -> g\n"
                   "1 e(g,X) -> q(X,X,X,X)\n1 z(X) -> o\n1 ring -> ring\n1 fan(X) -> fan(p(X,X))\n")


def rested(many, seed):
    """Triples of a book, a start and the way of its full layers to its rest."""
    found = []
    for book, start, steps in cases(many, seed):
        word, way, index = full_layers(book, start)
        if word == "rest":
            found.append((book, start, way))
    return found


CASES = rested(240, 1101)


def needed_by_words(book, start):
    """[29]: the step places at which why the whole rest is there has a name."""
    word, way, index = full_layers(book, start)
    named = named_by_words(why_by_words(book, start, way.lots(), way.end))
    return tuple(place for place in step_places(book, start) if place in named)


class NeededTest(Case):
    def test_ordinary_starts(self):
        rows = ((BOOK, "add(s(o),mul(o,add(s(o),o)))", ((), (2,))), (BOOK, "s(s(o))", ()), (BOOK, "mul(o,add(o,o))", ((),)),
                (BOOK, "mul(s(s(o)),add(s(o),o))", ((), (2,))), (BOOKS[2], "fst(pair(two(o),two(o)))", ((), (1, 1))),
                (BOOKS[2], "fst(fst(pair(pair(two(o),two(two(o))),two(o))))", ((1,), (1, 1, 1, 1))),
                (BOOKS[5], "k(n,d(n))", ((), (1,))), (BOOKS[5], "d(k(n,n))", ((), (1,), (1, 1))),
                # What is struck at once does not matter, even if it has no rest.
                (DELAYS, "e(f,w(a,u(o)))", ((1,), (2, 1))), (DELAYS, "w(k,ring)", ((),)))
        for book, text, wanted in rows:
            self.assert_equal(needed(book, Term.read(text)), wanted)
            self.assert_equal(needed(book=book, term=Term.read(text), rounds=60), wanted)
        self.raises("NoRest", ["ring"], needed, DELAYS, Term.read("p(w(k,o),ring)"))

    def test_by_words(self):
        few = 0
        for book, start, way in CASES:
            found = needed(book, start)
            self.assert_equal(found, needed_by_words(book, start))
            few += len(found) < len(step_places(book, start))
        self.assertGreater(few, 40)

    def test_each_way_to_the_rest_does_an_image(self):
        met = {True: 0, False: 0}
        for book, start, way in CASES:
            lot = needed(book, start)
            for place in step_places(book, start):
                wanted = is_needed_by_search(book, start, place)
                if wanted is not None:
                    self.assertIs(place in lot, wanted)
                    met[wanted] += 1
        self.assertGreater(min(met.values()), 60)

    def test_books_that_strike_nothing(self):
        for book, start, way in CASES:
            if book.first_striking() is None:
                self.assert_equal(needed(book, start), tuple(step_places(book, start)))

    def test_rounds_that_are_just_enough(self):
        for book, start, way in CASES:
            for call in (needed, needed_rounds):
                self.assertEqual(call(book, start, rounds=len(way)), call(book, start))
                if len(way):
                    self.raises("NoRest", ["open"], call, book, start, rounds=len(way) - 1)

    def test_it_is_a_tuple_of_its_own(self):
        self.assertIsInstance(needed(BOOK, START), tuple)
        self.assertEqual([needed(BOOK, START), START.text()], [((), (2,)), "add(s(o),mul(o,add(s(o),o)))"])


class AroundTest(Case):
    def test_ordinary_ways(self):
        self.assertEqual(around(BOOK, START, (2, 2)).text(), ".+2;1")
        start = Term.read("fst(pair(two(o),two(o)))")
        found = around(book=BOOKS[2], term=start, place=(1, 2), rounds=1)
        self.assertEqual([found.text(), found.book, found.start], [".+1.1", BOOKS[2], start])

    def test_it_is_the_lean_way_of_the_full_layers(self):
        met = 0
        for book, start, way in CASES:
            lot = needed(book, start)
            for place in step_places(book, start):
                if place in lot:
                    self.raises("Needed", [place], around, book, start, place)
                else:
                    found = around(book, start, place)
                    self.assertEqual(found, lean(way))
                    self.assert_equal(found.lots(), lean_by_words(book, start, way.lots()))
                    self.assertEqual(found.end, rest_of(book, start))
                    met += 1
        self.assertGreater(met, 60)

    def test_it_does_no_image_of_any_place_that_is_not_needed(self):
        for book, start, way in CASES:
            rest = [place for place in step_places(book, start) if place not in needed(book, start)]
            for place in rest:
                found = around(book, start, rest[0])
                for at, lot in enumerate(found.lots()):
                    left = images(Way(book, start, found.lots()[:at]), place)
                    self.assertEqual(set(left) & set(lot), set())

    def test_errors_in_their_order(self):
        open_start = Term("p", Term("ring"), Term.read("w(k,u(o))"))
        for value in NO_STARTS:
            self.raises("InvalidTerm", [], around, BOOK, value, (5,), rounds=-1)
        for value in ANY_VALUES + [(3,), (2, 2, 1), (1,)]:
            if not (isinstance(value, tuple) and value == ()):
                self.raises("NoStep", [0, value], around, BOOK, START, value)
                self.raises("NoStep", [0, value], around, BOOK, START, value, rounds=-1)
                self.raises("NoStep", [0, value], around, DELAYS, Term.read("w(k,ring)"), value, rounds=0)
        for value in (-1, 201, None, True, "5", 10 ** 9, (5,)):
            self.raises("InvalidNumber", [value], around, BOOK, START, (2, 2), rounds=value)
            self.raises("InvalidNumber", [value], around, BOOK, START, (), rounds=value)
            self.raises("InvalidNumber", [value], around, DELAYS, open_start, (1,), rounds=value)
        self.raises("NoRest", ["ring"], around, DELAYS, open_start, (1,))
        self.raises("NoRest", ["ring"], around, DELAYS, open_start, (2, 2))
        self.raises("NoRest", ["open"], around, DELAYS, open_start, (2, 2), rounds=0)
        self.raises("NoRest", ["open"], around, BOOK, START, (), rounds=1)
        self.raises("NoRest", ["great"], around, DELAYS, Term.read("p(w(k,u(o)),fan(o))"), (1,))
        self.raises("Needed", [()], around, BOOK, START, ())

    def test_needed_places_are_ahead_of_great_terms(self):
        start = waste("z", 600)
        self.assertEqual(rest_of(DELAYS, start).text(), "q(o,o,o,o)")
        self.assert_equal(needed(DELAYS, start), ((1,), (2, 1)))
        self.raises("Needed", [(1,)], around, DELAYS, start, (1,))
        self.raises("Needed", [(2, 1)], around, DELAYS, start, (2, 1))
        self.raises("TooGreat", [], around, DELAYS, start, (2, 2))
        self.assertEqual(around(DELAYS, waste("z", 400), (2, 2)).text(), "1+2.1;.+2.1;1.1+2.1+3.1+4.1;1+2+3+4")


def waste(name, many):
    """A start whose four copies hold on to so many places, unless they are struck ahead."""
    return Term("e", Term("f"), Term("w", Term("a"), Term(name, sized(many))))


class RoundsTest(Case):
    def test_ordinary_ways(self):
        self.assertEqual(needed_rounds(BOOK, START).text(), ".+2;1")
        found = needed_rounds(book=BOOKS[2], term=Term.read("fst(pair(two(o),two(o)))"), rounds=1)
        self.assertEqual([found.text(), found.end.text()], [".+1.1", "pair(o,o)"])
        self.assertEqual(needed_rounds(DELAYS, Term.read("w(a,u(o))")).text(), "1;1;1;.")

    def test_rests_as_starts(self):
        for term in (Term("o"), sized(2000)):
            self.assertEqual(needed_rounds(BOOK, term, rounds=0), Way(BOOK, term))
            self.assert_equal(needed(BOOK, term, rounds=0), ())

    def test_by_words(self):
        for book, start, way in CASES:
            found = needed_rounds(book, start)
            self.assertEqual([found.book, found.start], [book, start])
            self.assert_equal(found.lots(), [needed_by_words(book, term) for term in found.terms()[:-1]])
            self.assertEqual(step_places(book, found.end), [])

    def test_as_many_rounds_as_by_full_layers(self):
        for book, start, way in CASES:
            found = needed_rounds(book, start)
            self.assertEqual([found.end, len(found)], [way.end, len(way)])
            self.assertIs(alike(found, way), True)

    def test_drawn_needed_steps_lead_to_the_rest(self):
        dice = random.Random(1)
        for book, start, way in CASES[:60]:
            term, many = Way(book, start), 0
            while needed(book, term.end) and many < 40:
                term, many = term.with_lot([dice.choice(needed(book, term.end))]), many + 1
            self.assertTrue(many == 40 or term.end == way.end)

    def test_terms_that_are_not_fit(self):
        for many, wanted in ((400, None), (490, None), (600, "TooGreat")):
            start = waste("z", many)
            self.assertEqual(rest_of(DELAYS, start).text(), "q(o,o,o,o)")
            if wanted:
                self.raises(wanted, [], needed_rounds, DELAYS, start)
            else:
                self.assertEqual(needed_rounds(DELAYS, start).text(), "1+2.1;.+2.1;1.1+2.1+3.1+4.1;1+2+3+4")

    def test_full_layers_from_a_term_that_is_reached(self):
        # The start has a rest, but from the first term that needed steps reach all layers become too great.
        start = waste("u", 300)
        self.assertEqual(rest_of(DELAYS, start).text(), "q(o,o,o,o)")
        self.assert_equal(needed(DELAYS, start), ((1,), (2, 1)))
        behind = Way.read(DELAYS, start, "1+2.1").end
        self.assertEqual(full_layers(DELAYS, behind)[0], "great")
        self.raises("NoRest", ["great"], needed, DELAYS, behind)
        self.raises("NoRest", ["great"], needed_rounds, DELAYS, start)
        self.assertEqual(needed_rounds(DELAYS, waste("u", 100)).end.text(), "q(o,o,o,o)")

    def test_errors_in_their_order(self):
        for call in (needed, needed_rounds):
            for value in NO_STARTS:
                self.raises("InvalidTerm", [], call, BOOK, value)
                self.raises("InvalidTerm", [], call, BOOK, value, rounds=-1)
            for value in [value for value in ANY_VALUES if value is True or value not in (0, 1, 5)] + [-5, 201]:
                self.raises("InvalidNumber", [value], call, BOOK, START, rounds=value)
                self.raises("InvalidNumber", [value], call, DELAYS, Term("ring"), rounds=value)
            self.raises("NoRest", ["ring"], call, DELAYS, Term("ring"))
            self.raises("NoRest", ["open"], call, DELAYS, Term("ring"), rounds=0)
            self.raises("NoRest", ["great"], call, DELAYS, Term.read("fan(o)"))
            self.raises("NoRest", ["open"], call, DELAYS, Term.read("fan(o)"), rounds=9)
            with self.assertRaises(TypeError):
                call(BOOK, START, 60)


if __name__ == "__main__":
    unittest.main()
