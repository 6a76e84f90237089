"""What lots bring, counted without doing them."""

import random
import unittest
from unittest import mock

from remainways.books import Book
from remainways.counts import lot_dues, lot_steps, size_after, times_of
from remainways.doing import done, followed
from remainways.steps import step_places
from remainways.terms import Term
from tests.helper import ANY_VALUES, BOOKS, Case, cases, nested, part_of, rows_by_words
from tests.test_steps import NO_STARTS

BOOK = BOOKS[3]
START = Term.read("mul(s(s(o)),add(s(o),o))")
CASES = cases(200, 31)
SMALL = cases(150, 37, 4, 40)


class CountsTest(Case):
    def test_ordinary_counts(self):
        lot = [(), (2,)]
        self.assert_equal(lot_dues(BOOK, START, lot), (7, 9))
        self.assert_equal(lot_dues(book=BOOK, term=START, lot=lot), (7, 9))
        self.assert_equal(lot_steps(BOOK, START, lot), (2, 3))
        self.assert_equal(lot_steps(book=BOOK, term=START, lot=lot), (2, 3))
        self.assert_equal(size_after(BOOK, START, lot), 12)
        self.assert_equal(size_after(book=BOOK, term=START, lot=[]), 8)
        self.assert_equal(times_of(BOOK, START, (2,), [()]), 2)
        self.assert_equal(times_of(book=BOOK, term=START, place=(2,), lot=[]), 1)

    def test_empty_lots(self):
        self.assert_equal(lot_dues(BOOK, START, []), (0, 0))
        self.assert_equal(lot_steps(BOOK, START, ()), (0, 0))

    def test_times_by_words(self):
        dice = random.Random(1)
        for book, term, steps in CASES:
            for lot in (steps, part_of(dice, steps)):
                for place in steps:
                    many = len(followed(book, term, place, lot))
                    self.assert_equal(times_of(book, term, place, lot), many)

    def test_places_of_the_lot_have_no_images(self):
        self.assert_equal(times_of(BOOK, START, (), [()]), 0)
        self.assert_equal(times_of(BOOK, START, (2,), [(), (2,)]), 0)

    def test_sizes_by_words(self):
        dice = random.Random(2)
        for book, term, steps in CASES:
            for lot in (steps, part_of(dice, steps)):
                self.assert_equal(size_after(book, term, lot + lot), len(done(book, term, lot)))

    def test_dues_and_steps_of_all_rows(self):
        dice = random.Random(3)
        for book, term, steps in SMALL:
            for lot in (steps, part_of(dice, steps)):
                if lot_steps(book, term, lot)[1] <= 6:
                    rows = rows_by_words(book, term, tuple(lot))
                    dues = [due for row, due, end in rows]
                    many = [len(row) for row, due, end in rows]
                    self.assert_equal(lot_dues(book, term, lot + lot), (min(dues), max(dues)))
                    self.assert_equal(lot_steps(book, term, lot), (min(many), max(many)))

    def test_weights_beneath_what_is_struck(self):
        book = Book.read("5 drop(X) -> o\n3 three(X) -> f(X,X,X)\n2 one(X) -> X\n")
        term = Term.read("three(drop(three(one(o))))")
        lot = step_places(book, term)
        self.assert_equal(lot_dues(book, term, lot), (3 + 5, 3 + 3 * 5 + 3 * 3 + 9 * 2))
        self.assert_equal(lot_steps(book, term, lot), (2, 1 + 3 + 3 + 9))
        self.assert_equal(times_of(book, term, (1, 1, 1), [(), (1, 1)]), 9)
        self.assert_equal(times_of(book, term, (1, 1, 1), [(), (1,), (1, 1)]), 0)

    def test_great_terms_are_not_formed(self):
        book, term = BOOKS[2], nested("two", 90, Term("o"))
        lot = step_places(book, term)
        self.raises("TooGreat", [], done, book, term, lot)
        self.assert_equal(size_after(book, term, lot), 2 ** 91 - 1)
        self.assert_equal(lot_steps(book, term, lot), (90, 2 ** 90 - 1))
        self.assert_equal(lot_dues(book, term, lot), (90, 2 ** 90 - 1))
        self.assert_equal(times_of(book, term, lot[89], lot[:89]), 2 ** 89)
        self.assert_equal(times_of(book, term, lot[89], lot), 0)

    def test_no_len_is_asked_of_terms(self):
        # A list of as many items as a term has places is made for each len.
        book, term = BOOKS[2], nested("two", 90, Term("o"))
        lot = step_places(book, term)
        with mock.patch.object(Term, "__len__", side_effect=AssertionError):
            self.assert_equal(size_after(book, term, lot), 2 ** 91 - 1)
            self.assert_equal(size_after(book, term, lot[80:]), 80 + 2 ** 11 - 1)
            self.raises("TooGreat", [], done, book, term, lot)
            self.assertEqual(done(book, term, lot[88:]).levels, 91)

    def test_great_dues(self):
        due = 10 ** 30 - 1
        book, term = Book.read(f"{due} two(X) -> pair(X,X)\n"), nested("two", 60, Term("o"))
        self.assert_equal(lot_dues(book, term, step_places(book, term)), (60 * due, (2 ** 60 - 1) * due))

    def test_dues_of_nothing(self):
        self.assert_equal(lot_dues(BOOKS[6], Term.read("s(ring)"), [(1,)]), (0, 0))


class WrongTest(Case):
    def test_values_that_are_no_starts(self):
        for value in NO_STARTS:
            for call in (size_after, lot_dues, lot_steps):
                self.raises("InvalidTerm", [], call, BOOK, value, None)
            self.raises("InvalidTerm", [], times_of, BOOK, value, None, None)

    def test_values_that_are_no_lots(self):
        for value in ANY_VALUES:
            for call in (size_after, lot_dues, lot_steps):
                if not isinstance(value, (list, tuple)):
                    self.raises("InvalidLot", [0], call, BOOK, START, value)
                if value != () or isinstance(value, list):
                    self.raises("NoStep", [0, value], call, BOOK, START, [(), value, None])

    def test_the_place_is_ahead_of_the_lot(self):
        for value in ANY_VALUES:
            if value != () or isinstance(value, list):
                self.raises("NoStep", [0, value], times_of, BOOK, START, value, None)
                self.raises("NoStep", [0, value], times_of, BOOK, START, (2,), ((2,), value))
            if not isinstance(value, (list, tuple)):
                self.raises("InvalidLot", [0], times_of, BOOK, START, (2,), value)

    def test_lots_are_not_changed(self):
        lot = [(2,), (), (2,)]
        for call in (size_after, lot_dues, lot_steps):
            call(BOOK, START, lot)
        times_of(BOOK, START, (2,), lot)
        self.assertEqual(lot, [(2,), (), (2,)])


if __name__ == "__main__":
    unittest.main()
