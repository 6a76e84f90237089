"""The common past of two ways, and ways with a step taken out."""

import random
import unittest

from remainways.books import Book
from remainways.layers import key_of, layers, settled
from remainways.pasts import common_past, without
from remainways.remains import alike, images, joined, within
from remainways.steps import step_places
from remainways.terms import Term
from remainways.ways import Way
from tests.helper import ANY_VALUES, BOOKS, Case, cases, nested
from tests.waywords import (chain, common_by_words, few_lots, lower, random_lots, random_ways, strangers, twin_of,
                            upper, without_by_words)

BOOK = Book.read("1 two(X) -> pair(X,X)\n")
START = Term.read("two(two(o))")
# The books of random ways that strike nothing, and starts of them with steps within steps.
MILD = [BOOKS[1], BOOKS[4], BOOK, Book.read("1 two(X) -> pair(X,X)\n2 one(X) -> X\n3 n -> one(o)\n4 e(s(X)) -> two(X)\n")]
TEXTS = ["two(two(two(o)))", "two(one(two(one(o))))", "one(e(one(s(two(n)))))", "pair(two(one(n)),e(s(one(n))))",
         "one(one(one(one(o))))", "e(s(e(s(one(n)))))"]


def mild_ways(many, seed, count):
    """Random lists of so many ways from one start each, in books that strike nothing."""
    found = random_ways(many, seed, count, 4, 6, 30, MILD)
    dice = random.Random(seed)
    for text in TEXTS * (many // 30):
        start = Term.read(text)
        found.append([Way(MILD[3], start, dice.choice((random_lots, few_lots))(dice, MILD[3], start, 5))
                      for _ in range(count)])
    return found


PAIRS = mild_ways(240, 401, 2)
TRIPLES = mild_ways(180, 409, 3)


class PastTest(Case):
    def test_ordinary_ways(self):
        one, other = Way.read(BOOK, START, ".;1"), Way.read(BOOK, START, ".;2")
        self.assertEqual(common_past(one, other).text(), ".")
        self.assertEqual(common_past(one=one, other=Way.read(BOOK, START, "1;.")).text(), ".;1")
        self.assertEqual(common_past(Way.read(BOOK, START, "."), Way.read(BOOK, START, "1")).text(), "-")
        self.assertEqual(common_past(one, Way(BOOK, START)).text(), "-")
        self.assertEqual(common_past(Way(BOOK, START), Way(BOOK, START, [[]])).lots(), [])

    def test_common_pasts_by_words(self):
        lengths = {}
        for one, other in PAIRS:
            found = common_past(one, other)
            self.assert_equal(found.lots(), common_by_words(one.book, one.start, one.lots(), other.lots()))
            self.assertEqual([found.book, found.start], [one.book, one.start])
            lengths[len(found)] = True
        self.assertGreaterEqual(len(lengths), 3)

    def test_it_is_settled_and_within_both(self):
        for one, other in PAIRS:
            found = common_past(one, other)
            self.assertEqual(settled(found), found)
            self.assertEqual([within(found, one), within(found, other)], [True, True])
            self.assertEqual(common_past(other, one), found)
            self.assertEqual(common_past(one, twin_of(one)), settled(one))
            self.assertEqual(common_past(one, joined(one, other)), settled(one))

    def test_each_way_within_both_is_within_it(self):
        met = 0
        for one, other, third in TRIPLES:
            first, second = joined(third, one), joined(third, other)
            self.assertIs(within(third, common_past(first, second)), True)
            for way in (one, other, common_past(one, other)):
                both = within(way, first) and within(way, second)
                self.assertIs(within(way, common_past(first, second)), both)
                met += both
        self.assertGreater(met, 50)

    def test_great_chains(self):
        one, other = upper(14, 7), lower(14, 7)
        book = Book(*one.book.rules()[:1])
        one, other = (Way(book, way.start, way.lots()) for way in (one, other))
        self.assertEqual(common_past(one, other).text(), "-")
        both = Way(book, chain(14), [[(1,) * at for at in range(3, 9)]])
        self.assertEqual(common_past(one, both).text(), key_of(Way(book, chain(14), [[(1,) * at for at in range(3, 7)]])))
        self.assertEqual(common_past(both, other).text(), key_of(Way(book, chain(14), [[(1,) * at for at in (7, 8)]])))

    def test_a_past_that_is_not_fit(self):
        book, start, way = grown()
        self.assertEqual([len(way), way.end.text()], [30 * 6 + 1, "less(o)"])
        self.raises("TooGreat", [], settled, way)
        self.raises("TooGreat", [], common_past, way, way)
        self.assertEqual(common_past(way, Way(book, start)).text(), "-")
        self.assertEqual(common_past(way, Way(book, start, way.lots()[:2])).text(), key_of(Way(book, start, way.lots()[:2])))

    def test_errors_in_their_order(self):
        striking = BOOKS[2]
        one, other = upper(14, 7), lower(14, 7)
        self.raises("Strikes", [1], common_past, one, other)
        self.raises("Strikes", [1], common_past, Way(striking, START), Way(striking, START))
        self.raises("Strikes", [0], common_past, Way(BOOKS[5], START), Way(BOOKS[5], START))
        for way in (Way(striking, START), Way.read(BOOK, START, ".")):
            for stranger in strangers(way):
                self.raises("OtherStart", [], common_past, way, stranger)
                self.raises("OtherStart", [], common_past, stranger, way)


def grown():
    """A book that strikes nothing, a start, and a way whose settled way is not fit: each step is taken back at once."""
    book = Book.read("1 grow(X) -> g(a,a,a,g(a,a,a,g(a,a,a,g(a,a,a,g(a,a,a,X)))))\n1 less(g(a,a,a,X)) -> less(X)\n"
                     "1 less(end(X)) -> less(X)\n")
    start = Term("less", nested("grow", 30, Term.read("end(o)")))
    way = Way(book, start)
    while step_places(book, way.end):
        way = way.with_lot(step_places(book, way.end)[:1])
    return book, start, way


class WithoutTest(Case):
    def test_ordinary_ways(self):
        way = Way.read(BOOK, START, "1;.")
        self.assertEqual([without(way, (1,)).text(), without(way=way, place=()).text()], [".", "1"])
        self.assertEqual(without(Way.read(BOOK, START, ".;2"), ()).text(), "-")
        self.assertEqual(without(Way.read(BOOK, START, ".;2"), (1,)).text(), ".")
        self.assertEqual(without(Way(BOOK, START), ()).text(), "-")
        self.assertEqual(without(Way(BOOK, START, [[], []]), (1,)).lots(), [])

    def test_what_hangs_on_it_is_gone_too(self):
        book = MILD[3]
        way = Way.read(book, Term.read("pair(n,one(o))"), "1;1;2")
        self.assertEqual([without(way, (1,)).text(), without(way, (2,)).text()], ["2", "1;1"])
        self.assertIs(alike(joined(without(way, (1,)), Way.read(book, way.start, "1")), way), False)

    def test_ways_by_words(self):
        for one, other in PAIRS:
            for way in (one, joined(one, other)):
                for place in step_places(way.book, way.start):
                    found = without(way, place)
                    self.assert_equal(found.lots(), without_by_words(way.book, way.start, way.lots(), (place,)))
                    self.assertEqual([found.book, found.start], [way.book, way.start])

    def test_it_is_settled_and_does_no_image(self):
        for one, other in PAIRS:
            for place in step_places(one.book, one.start):
                found = without(one, place)
                self.assertEqual(settled(found), found)
                self.assertIs(within(found, one), True)
                for at, lot in enumerate(found.lots()):
                    begun = Way(one.book, one.start, found.lots()[:at])
                    self.assertEqual(set(images(begun, place)) & set(lot), set())

    def test_each_way_within_that_does_no_image_is_within_it(self):
        met = 0
        for one, other, third in TRIPLES:
            whole = joined(one, other)
            for place in step_places(one.book, one.start):
                found = without(whole, place)
                for way in (one, other, common_past(whole, third)):
                    clean = all(not set(images(Way(way.book, way.start, way.lots()[:at]), place)) & set(lot)
                                for at, lot in enumerate(way.lots()))
                    if clean:
                        self.assertIs(within(way, found), True)
                        met += len(layers(way)) > 1
        self.assertGreater(met, 20)

    def test_places_that_the_way_does_not_do(self):
        for book, start, steps in cases(60, 419):
            if book in MILD:
                way = Way(book, start, [steps[:1]])
                for place in steps[1:]:
                    self.assertEqual(without(way, place), settled(way))

    def test_a_way_that_is_not_fit(self):
        book, start, way = grown()
        self.raises("TooGreat", [], without, way, (1,) * 30)
        self.raises("TooGreat", [], without, way, (1,))
        self.assertEqual(without(Way(book, start, way.lots()[:13]), (1,)).text(), "1.1+1.1.1")

    def test_errors_in_their_order(self):
        way = Way.read(BOOK, START, "1;.")
        for value in ANY_VALUES:
            if value not in ((), (1,)) or isinstance(value, list) or repr(value) == "(True,)":
                self.raises("NoStep", [0, value], without, way, value)
                self.raises("Strikes", [1], without, Way(BOOKS[2], START), value)
        self.raises("NoStep", [0, (2,)], without, Way.read(BOOK, START, ".;1"), (2,))
        self.raises("Strikes", [0], without, Way(BOOKS[5], Term.read("n")), ())
        self.raises("Strikes", [1], without, upper(14, 7), ())
        self.raises("Strikes", [2], without, Way(BOOKS[3], Term.read("add(o,o)")), ())


if __name__ == "__main__":
    unittest.main()
