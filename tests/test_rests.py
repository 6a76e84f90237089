"""Full layers, the words that end them, and rests."""

import random
import unittest

from remainways.books import Book
from remainways.layers import layers
from remainways.remains import alike, left
from remainways.rests import ROUNDS, full_layers, rest_of
from remainways.steps import step_places
from remainways.terms import Term
from remainways.ways import Way
from tests.helper import ANY_VALUES, BOOKS, Case, cases, done_by_words, nested, sized, steps_by_words
from tests.piecewords import full_by_words
from tests.test_steps import NO_STARTS
from tests.waywords import chain

BOOK = BOOKS[3]
START = Term.read("mul(s(s(o)),add(s(o),o))")
CASES = cases(150, 1001)
RINGS = Book.read("1 a -> b\n1 b -> c\n1 c -> d\n1 d -> b\n1 run(o,s(Y)) -> run(s(s(s(s(s(s(s(s(s(o))))))))),Y)\n"
                  "1 run(s(X),Y) -> run(X,Y)\n1 flip(X,Y) -> flip(Y,X)\n1 up(X) -> up(s(X))\n1 fan(X) -> fan(f(X,X))\n"
                  "1 leap(X) -> f(X,X,X)\n1 fall(X) -> o\n")


def counted(many, more=0):
    """The start of RINGS from which it takes so many full layers to its rest."""
    return Term("run", nested("s", many - 10 * more, Term("o")), nested("s", more, Term("o")))


def some_way_to_rest(dice, book, start, most=60):
    """A way of drawn lots to a rest, None if it becomes too long or too great."""
    lots, term = [], start
    while steps_by_words(book, term):
        steps = steps_by_words(book, term)
        lot = dice.sample(steps, min(len(steps), dice.choice((1, 2, 3))))
        term = done_by_words(book, term, lot)
        lots.append(lot)
        if len(lots) == most or term.size() > 200:
            return None
    return Way(book, start, lots)


class FullTest(Case):
    def test_an_ordinary_rest(self):
        word, way, index = full_layers(BOOK, START)
        self.assert_equal([word, way.text(), index], ["rest", ".+2;.+1.1+2+2.2.1;1+1.2+1.2.2;1.1", None])
        self.assertEqual([way.start, way.book, way.end.text()], [START, BOOK, "s(s(o))"])
        self.assertIsInstance(full_layers(book=BOOK, term=START, rounds=4), tuple)
        self.assertEqual(rest_of(book=BOOK, term=START, rounds=4).text(), "s(s(o))")

    def test_a_start_that_is_a_rest(self):
        for term in (Term.read("s(s(o))"), Term("add", Term("x"), Term("o")), sized(2000)):
            for rounds in (0, 1, 60, 200):
                self.assert_equal(full_layers(BOOK, term, rounds=rounds), ("rest", Way(BOOK, term), None))
                self.assertEqual(rest_of(BOOK, term, rounds=rounds), term)

    def test_by_words(self):
        met = {}
        for book, start, steps in CASES:
            for rounds in (0, 1, 2, 6):
                word, lots, index = full_by_words(book, start, rounds)
                found = full_layers(book, start, rounds=rounds)
                self.assert_equal([found[0], found[1].lots(), found[2]], [word, lots, index])
                self.assertEqual([found[1].book, found[1].start], [book, start])
                met[word] = met.get(word, 0) + 1
                if word == "rest":
                    self.assertEqual(rest_of(book, start, rounds=rounds), found[1].end)
                else:
                    self.raises("NoRest", [word], rest_of, book, start, rounds=rounds)
        self.assertGreater(min(met["rest"], met["ring"], met["open"]), 10)

    def test_just_the_rounds_that_are_needed_and_one_fewer(self):
        for book, start, steps in CASES:
            word, way, index = full_layers(book, start, rounds=20)
            many = len(way)
            if word != "open":
                found = full_layers(book, start, rounds=many)
                self.assertEqual([found[1], found[2]], [way, index])
                self.assertEqual(found[0], "open" if word == "great" else word)
            if many:
                found = full_layers(book, start, rounds=many - 1)
                self.assertEqual([found[0], found[1].lots(), found[2]], ["open", way.lots()[:-1], None])

    def test_rings(self):
        rows = (("a", 1, 4), ("b", 0, 3), ("f(a,b)", 1, 4), ("flip(x,y)", 0, 2), ("flip(x,x)", 0, 1), ("flip(a,x)", 1, 7),
                ("flip(b,x)", 0, 6), ("f(flip(x,y),b)", 0, 6), ("fall(fall(b))", None, 1))
        for text, index, many in rows:
            word, way, found = full_layers(RINGS, Term.read(text))
            self.assert_equal([word, len(way), found], ["rest" if index is None else "ring", many, index])
            if index is not None:
                self.assertEqual(way.terms()[index], way.end)
                self.assertEqual(full_layers(RINGS, Term.read(text), rounds=many)[0], "ring")
                self.assertEqual(full_layers(RINGS, Term.read(text), rounds=many - 1)[0], "open")
                self.raises("NoRest", ["ring"], rest_of, RINGS, Term.read(text))
        self.assert_equal(full_layers(BOOKS[6], Term("ring"))[2], 0)

    def test_rings_behind_many_steps(self):
        start = Term("f", counted(50), Term("b"))
        word, way, index = full_layers(RINGS, start)
        self.assert_equal([word, len(way), index], ["ring", 53, 50])
        # The earliest of the terms that are equal to this one is the only one.
        self.assertEqual([at for at, term in enumerate(way.terms()) if term == way.end], [50, 53])

    def test_rounds(self):
        self.assertEqual(ROUNDS, 60)
        for many in (59, 60):
            self.assert_equal(full_layers(RINGS, counted(many))[0], "rest")
            self.assertEqual(rest_of(RINGS, counted(many)).text(), "run(o,o)")
        for start in (counted(61), counted(61, 2)):
            word, way, index = full_layers(RINGS, start)
            self.assert_equal([word, len(way), index], ["open", 60, None])
            self.raises("NoRest", ["open"], rest_of, RINGS, start)
            self.assertEqual(rest_of(RINGS, start, rounds=61).text(), "run(o,o)")
        for many, more, wanted in ((199, 15, "rest"), (200, 16, "rest"), (201, 17, "open")):
            word, way, index = full_layers(RINGS, counted(many, more), rounds=200)
            self.assert_equal([word, len(way), index], [wanted, min(many, 200), None])

    def test_no_rounds(self):
        for text in ("a", "add(o,o)", "leap(o)", "run(o,o)"):
            word, way, index = full_layers(RINGS, Term.read(text), rounds=0)
            self.assert_equal([word, way.lots(), index], ["rest" if text[0] in "ar" and "(" in text else "open", [], None])

    def test_great_ends_by_places(self):
        word, way, index = full_layers(RINGS, Term.read("fan(o)"))
        self.assert_equal([word, len(way), way.end.size(), index], ["great", 9, 1024, None])
        self.raises("NoRest", ["great"], rest_of, RINGS, Term.read("fan(o)"))
        self.assertEqual(full_layers(RINGS, Term.read("fan(o)"), rounds=9)[0], "open")
        for many, wanted in ((499, "rest"), (666, "rest"), (667, "great"), (1999, "great")):
            word, way, index = full_layers(RINGS, Term("leap", sized(many)))
            self.assertEqual([word, len(way)], [wanted, 1 if wanted == "rest" else 0])
            self.assertEqual(full_layers(RINGS, Term("leap", sized(many)), rounds=0)[0], "open")
        # Counted, as the next term would have 2**60 places and more.
        self.assert_equal(full_layers(BOOKS[2], chain(60)), ("great", Way(BOOKS[2], chain(60)), None))

    def test_great_ends_by_levels(self):
        word, way, index = full_layers(RINGS, Term.read("up(o)"), rounds=200)
        self.assert_equal([word, len(way), way.end.levels, index], ["great", 98, 100, None])
        self.assertEqual(full_layers(RINGS, Term.read("up(o)"), rounds=98)[0], "open")
        self.assertEqual(full_layers(RINGS, Term.read("up(o)"))[0], "open")
        self.assertEqual(full_layers(RINGS, nested("up", 99, Term("o")))[0], "great")
        self.raises("NoRest", ["great"], rest_of, RINGS, Term.read("up(o)"), rounds=200)
        self.raises("NoRest", ["open"], rest_of, RINGS, Term.read("up(o)"), rounds=98)

    def test_the_first_word_that_applies(self):
        # A great next term does not matter behind the last round, nor does what is struck.
        struck = Term("fall", Term("up", chain(90)))
        self.assert_equal([full_layers(RINGS, struck)[0], len(full_layers(RINGS, struck)[1])], ["rest", 1])
        word, way, index = full_layers(RINGS, Term("f", Term("b"), Term.read("fall(up(o))")), rounds=4)
        self.assert_equal([word, len(way), index], ["ring", 4, 1])

    def test_errors_in_their_order(self):
        for call in (full_layers, rest_of):
            for value in NO_STARTS:
                self.raises("InvalidTerm", [], call, BOOK, value)
                self.raises("InvalidTerm", [], call, BOOK, value, rounds=-1)
            for value in [value for value in ANY_VALUES if value is True or value not in (0, 1, 5)] + [-5, 201, 10 ** 9]:
                self.raises("InvalidNumber", [value], call, BOOK, START, rounds=value)
                self.raises("InvalidNumber", [value], call, RINGS, Term("a"), rounds=value)
                self.raises("InvalidNumber", [value], call, BOOK, Term("o"), rounds=value)
            with self.assertRaises(TypeError):
                call(BOOK, START, 60)

    def test_nothing_is_changed(self):
        first = full_layers(BOOK, START)
        first[1].lots().clear()
        first[1].terms().clear()
        self.assertEqual(full_layers(BOOK, START), first)
        self.assertEqual([START.text(), len(BOOK)], ["mul(s(s(o)),add(s(o),o))", 4])


class FactsTest(Case):
    def test_nothing_is_left_of_any_way_to_a_rest(self):
        dice = random.Random(1)
        met = 0
        for book, start, steps in CASES:
            way = some_way_to_rest(dice, book, start)
            if way is not None:
                word, full, index = full_layers(book, start, rounds=len(way))
                self.assertEqual([word, full.end], ["rest", way.end])
                self.assertIs(alike(full, way), True)
                self.assertLessEqual(len(full), len(layers(way)))
                self.assertLessEqual(len(layers(way)), len(way))
                begun = Way(book, start, [steps[:1]])
                self.assertEqual([lot for lot in left(begun, way).lots() if lot], [])
                met += 1
        self.assertGreater(met, 60)

    def test_at_a_ring_the_start_has_no_rest(self):
        dice = random.Random(2)
        met = 0
        for book, start, steps in CASES:
            if full_layers(book, start)[0] == "ring":
                self.assertIsNone(some_way_to_rest(dice, book, start, 20))
                met += 1
        self.assertGreater(met, 3)

    def test_a_rest_is_a_plain_term_without_step_places(self):
        for book, start, steps in CASES:
            word, way, index = full_layers(book, start)
            self.assertIs(step_places(book, way.end) == [], word == "rest")
            self.assertIs(way.end.is_plain() and way.end.is_fit(), True)


if __name__ == "__main__":
    unittest.main()
