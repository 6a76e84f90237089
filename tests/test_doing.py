"""Doing lots, images of step places, what is left of lots."""

import random
import unittest

from remainways.books import Book
from remainways.doing import done, followed, left_lot
from remainways.steps import rule_at, step_places
from remainways.terms import Term
from tests.helper import (ANY_VALUES, BOOKS, Case, cases, done_by_words, images_by_words, left_by_words, nested,
                          part_of, sized)
from tests.test_steps import NO_STARTS

BOOK = BOOKS[3]
START = Term.read("mul(s(s(o)),add(s(o),o))")
CASES = cases(200, 23)


class DoneTest(Case):
    def test_terms_behind_lots(self):
        rows = (
            (BOOKS[1], "one(one(o))", [()], "one(o)"), (BOOKS[1], "one(one(o))", [(), (1,)], "o"),
            (BOOKS[2], "two(two(o))", [()], "pair(two(o),two(o))"),
            (BOOKS[2], "two(two(o))", [(), (1,)], "pair(pair(o,o),pair(o,o))"),
            (BOOKS[2], "fst(pair(o,two(o)))", [(), (1, 2)], "o"),
            (BOOKS[4], "swap(pair(swap(pair(a,b)),c))", [(), (1, 1)], "pair(c,pair(b,a))"),
            (BOOKS[6], "keep(three(o),drop(ring))", [(), (1,), (2, 1)], "g(drop(ring))"),
            (BOOKS[6], "ring", [()], "ring"), (BOOK, "s(add(o,o))", [], "s(add(o,o))"),
        )
        for book, text, lot, behind in rows:
            self.assertEqual(done(book, Term.read(text), lot).text(), behind)
        self.assertEqual(done(book=BOOK, term=START, lot=[()]).text(), "add(add(s(o),o),mul(s(o),add(s(o),o)))")

    def test_terms_by_words(self):
        dice = random.Random(1)
        for book, term, steps in CASES:
            for lot in (steps, part_of(dice, steps), part_of(dice, steps)):
                text = term.text()
                self.assertEqual(done(book, term, lot), done_by_words(book, term, lot))
                self.assertEqual(done(book, term, tuple(lot) + tuple(lot[:1])), done_by_words(book, term, lot))
                self.assertEqual(term.text(), text)

    def test_wrong_values(self):
        for value in NO_STARTS:
            self.raises("InvalidTerm", [], done, BOOK, value, None)
        for value in ANY_VALUES:
            if not isinstance(value, (list, tuple)):
                self.raises("InvalidLot", [0], done, BOOK, START, value)
            if value != () or isinstance(value, list):
                self.raises("NoStep", [0, value], done, BOOK, START, [(2,), value, (9,)])

    def test_no_step_is_ahead_of_too_great(self):
        great = Term("two", sized(1500))
        self.raises("TooGreat", [], done, BOOKS[2], great, [()])
        self.raises("NoStep", [0, (1,)], done, BOOKS[2], great, [(), (1,)])

    def test_bound_of_places(self):
        for size, fit in ((999, True), (1000, False)):
            term = Term("two", sized(size))
            if fit:
                self.assertEqual(len(done(BOOKS[2], term, [()])), 1999)
            else:
                self.raises("TooGreat", [], done, BOOKS[2], term, [()])
        grow = Book.read("1 two(X) -> f(X,X,o)\n")
        self.assertEqual(len(done(grow, Term("two", sized(999)), [()])), 2000)

    def test_bound_of_levels(self):
        book = Book.read("1 up(X) -> s(s(s(X)))\n1 down(X,Y) -> Y\n")
        term = nested("s", 95, Term("up", Term("o")))
        self.assertEqual(term.levels, 97)
        self.assertEqual(done(book, nested("s", 95, Term("up", Term("o"))), [(1,) * 95]).levels, 99)
        self.assertEqual(done(book, nested("s", 96, Term("up", Term("o"))), [(1,) * 96]).levels, 100)
        self.raises("TooGreat", [], done, book, nested("s", 97, Term("up", Term("o"))), [(1,) * 97])
        self.raises("TooGreat", [], done, book, nested("up", 34, Term("o")), [(1,) * at for at in range(34)])
        self.assertEqual(done(book, nested("up", 33, Term("o")), [(1,) * at for at in range(33)]).levels, 100)

    def test_what_is_struck_may_be_great(self):
        book = Book.read("1 two(X) -> pair(X,X)\n1 last(X,Y) -> Y\n")
        inner = nested("two", 90, Term("o"))
        term = Term("last", inner, Term("two", Term("o")))
        self.assertEqual(done(book, term, step_places(book, term)).text(), "pair(o,o)")
        self.raises("TooGreat", [], done, book, inner, step_places(book, inner))

    def test_fact_of_both_at_once(self):
        dice = random.Random(2)
        for book, term, steps in CASES:
            one, other = part_of(dice, steps), part_of(dice, steps)
            both = done(book, term, one + other)
            first = done(book, term, one)
            self.assertEqual(done(book, first, left_lot(book, term, other, one)), both)
            second = done(book, term, other)
            self.assertEqual(done(book, second, left_lot(book, term, one, other)), both)


class FollowedTest(Case):
    def test_images(self):
        two, rows = BOOKS[2], Term.read("two(two(two(o)))")
        self.assert_equal(followed(two, rows, (1, 1), []), [(1, 1)])
        self.assert_equal(followed(two, rows, (1, 1), [()]), [(1, 1), (2, 1)])
        self.assert_equal(followed(two, rows, (1, 1), [(1,), ()]), [(1, 1), (1, 2), (2, 1), (2, 2)])
        self.assert_equal(followed(two, rows, (1,), [(1,), ()]), [])
        self.assert_equal(followed(two, rows, (), [(1,)]), [()])
        self.assert_equal(followed(BOOKS[1], Term.read("one(one(o))"), (1,), ((),)), [()])
        fst = Term.read("fst(pair(two(o),two(o)))")
        self.assert_equal(followed(two, fst, (1, 1), [()]), [()])
        self.assert_equal(followed(two, fst, (1, 2), [()]), [])
        self.assert_equal(followed(book=two, term=fst, place=(1, 2), lot=[(1, 1)]), [(1, 2)])
        beside = Term.read("pair(two(o),two(o))")
        self.assert_equal(followed(two, beside, (2,), [(1,)]), [(2,)])

    def test_images_by_words(self):
        dice = random.Random(3)
        for book, term, steps in CASES:
            for lot in (steps, part_of(dice, steps), part_of(dice, steps)):
                behind = done(book, term, lot)
                met = []
                for place in steps:
                    images = followed(book, term, place, lot)
                    self.assert_equal(images, images_by_words(book, term, place, lot))
                    self.assertEqual(images, sorted(set(images)))
                    for image in images:
                        self.assertEqual(rule_at(book, behind, image), rule_at(book, term, place))
                    met += images
                self.assertEqual(len(met), len(set(met)))

    def test_wrong_values_in_their_order(self):
        self.raises("InvalidTerm", [], followed, BOOK, None, None, None)
        for value in ANY_VALUES:
            if value != () or isinstance(value, list):
                self.raises("NoStep", [0, value], followed, BOOK, START, value, None)
                self.raises("NoStep", [0, value], followed, BOOK, START, (2,), [value, None])
            if not isinstance(value, (list, tuple)):
                self.raises("InvalidLot", [0], followed, BOOK, START, (2,), value)
        self.raises("NoStep", [0, (1,)], followed, BOOK, START, (1,), [(1, 1)])


class LeftTest(Case):
    def test_what_is_left(self):
        two, rows = BOOKS[2], Term.read("two(two(o))")
        self.assert_equal(left_lot(two, rows, [()], [(1,)]), ((),))
        self.assert_equal(left_lot(two, rows, [(1,)], [()]), ((1,), (2,)))
        self.assert_equal(left_lot(two, rows, [(1,), ()], [()]), ((1,), (2,)))
        self.assert_equal(left_lot(two, rows, [(1,), ()], [(1,), ()]), ())
        self.assert_equal(left_lot(two, rows, [], [()]), ())
        self.assert_equal(left_lot(two, rows, ((1,), ()), ()), ((), (1,)))
        self.assert_equal(left_lot(book=two, term=rows, lot=[(1,), (1,)], other=[()]), ((1,), (2,)))

    def test_what_is_left_by_words(self):
        dice = random.Random(4)
        for book, term, steps in CASES:
            one, other = part_of(dice, steps), part_of(dice, steps)
            self.assert_equal(left_lot(book, term, one, other), left_by_words(book, term, one, other))

    def test_fact_of_a_third_lot(self):
        dice = random.Random(5)
        for book, term, steps in CASES:
            one, other, third = part_of(dice, steps), part_of(dice, steps), part_of(dice, steps)
            roads = []
            for first, second in ((one, other), (other, one)):
                behind = done(book, term, first)
                rest = left_lot(book, term, third, first)
                roads.append(left_lot(book, behind, rest, left_lot(book, term, second, first)))
            self.assert_equal(roads[0], roads[1])

    def test_wrong_values_in_their_order(self):
        self.raises("InvalidTerm", [], left_lot, BOOK, Term("X"), None, None)
        self.raises("InvalidLot", [0], left_lot, BOOK, START, None, [None])
        self.raises("InvalidLot", [0], left_lot, BOOK, START, [()], "lot")
        self.raises("NoStep", [0, (1,)], left_lot, BOOK, START, [(), (1,)], None)
        self.raises("NoStep", [0, (True,)], left_lot, BOOK, START, [()], [(2,), (True,)])
        self.raises("NoStep", [0, [2]], left_lot, BOOK, START, [[2]], [(9,)])

    def test_lots_are_not_changed(self):
        one, other = [(2,), (), (2,)], [(), (2,), ()]
        left_lot(BOOK, START, one, other)
        followed(BOOK, START, (2,), one)
        done(BOOK, START, other)
        self.assertEqual([one, other], [[(2,), (), (2,)], [(), (2,), ()]])

    def test_great_terms_are_no_hindrance(self):
        book, term = BOOKS[2], nested("two", 90, Term("o"))
        lot = step_places(book, term)
        self.assertEqual(left_lot(book, term, lot, lot), ())
        self.assertEqual(left_lot(book, term, lot, lot[1:]), ((),))
        self.assertEqual(len(left_lot(book, term, lot[10:], lot[:10])), 80 * 1024)


if __name__ == "__main__":
    unittest.main()
