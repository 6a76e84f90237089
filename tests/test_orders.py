"""Rows of single steps for lots: the least, the greatest, all of them."""

import random
import unittest

from remainways.books import Book
from remainways.counts import lot_dues, lot_steps
from remainways.doing import done
from remainways.orders import greatest_row, least_row, rows_of_lot
from remainways.steps import step_places
from remainways.terms import Term
from tests.helper import (ANY_VALUES, BOOKS, Case, cases, done_by_words, holes_by_words, left_by_words, nested,
                          part_of, right_places, rows_by_words, rule_by_words)
from tests.test_steps import NO_STARTS

BOOK = BOOKS[3]
START = Term.read("mul(s(s(o)),add(s(o),o))")
CASES = cases(150, 41, 5, 40)


def walked(book, term, lot, row):
    """The dues of a row, the term behind it, and what is left of the lot then, by single steps."""
    dues = 0
    for place in row:
        if place not in lot:
            raise AssertionError("a step that is not left of the lot")
        dues += book.rules()[rule_by_words(book, term, place)].due
        term, lot = done_by_words(book, term, [place]), left_by_words(book, term, lot, [place])
    return dues, term, lot


def greatest_by_words(book, term, lot, here=()):
    """[13]: the greatest row, the term behind it, for the places of a lot at or beneath a place."""
    row = []
    inside = sorted(place for place in lot if place[:len(here)] == here)
    tops = [place for place in inside if not any(place[:many] in inside for many in range(len(place)))]
    for top in tops:
        rule = book.rules()[rule_by_words(book, term, top)]
        for hole, spot in sorted(holes_by_words(rule).items(), key=lambda pair: pair[1]):
            if not right_places(rule, hole):
                steps, term, lot = greatest_by_words(book, term, lot, top + spot)
                row += steps
        row.append(top)
        term, lot = done_by_words(book, term, [top]), left_by_words(book, term, lot, [top])
        steps, term, lot = greatest_by_words(book, term, lot, top)
        row += steps
    return row, term, lot


class RowsTest(Case):
    def test_ordinary_rows(self):
        lot = [(), (2,)]
        self.assert_equal(least_row(BOOK, START, lot), [(2,), ()])
        self.assert_equal(greatest_row(BOOK, START, lot), [(), (1,), (2, 2)])
        rows = [((), (1,), (2, 2)), ((), (2, 2), (1,)), ((2,), ())]
        self.assert_equal(list(rows_of_lot(BOOK, START, lot)), rows)
        self.assert_equal(least_row(book=BOOK, term=START, lot=lot), [(2,), ()])
        self.assert_equal(greatest_row(book=BOOK, term=START, lot=lot), [(), (1,), (2, 2)])
        self.assert_equal(list(rows_of_lot(book=BOOK, term=START, lot=lot)), rows)

    def test_empty_lots(self):
        self.assert_equal(least_row(BOOK, START, []), [])
        self.assert_equal(greatest_row(BOOK, START, ()), [])
        self.assert_equal(list(rows_of_lot(BOOK, START, [])), [()])

    def test_all_rows_by_words(self):
        dice = random.Random(1)
        for book, term, steps in CASES:
            for lot in (steps, part_of(dice, steps)):
                if lot_steps(book, term, lot)[1] <= 6:
                    wanted = [row for row, due, end in rows_by_words(book, term, tuple(lot))]
                    rows = list(rows_of_lot(book, term, lot + lot))
                    self.assert_equal(rows, wanted)
                    self.assertEqual(rows, sorted(set(rows)))

    def test_each_row_leads_to_the_same_term(self):
        for book, term, steps in CASES[:40]:
            if lot_steps(book, term, steps)[1] <= 6:
                for row in rows_of_lot(book, term, steps):
                    end = walked(book, term, tuple(steps), row)[1:]
                    self.assertEqual(end, (done(book, term, steps), ()))

    def test_least_and_greatest_rows_by_words(self):
        dice = random.Random(2)
        for book, term, steps in CASES:
            for lot in (tuple(steps), tuple(part_of(dice, steps))):
                if lot_steps(book, term, lot)[1] <= 40:
                    self.check_bounds(book, term, lot)

    def check_bounds(self, book, term, lot):
        least, greatest = least_row(book, term, lot), greatest_row(book, term, lot)
        self.assertEqual(greatest, greatest_by_words(book, term, lot)[0])
        self.assertEqual(least, sorted(least, reverse=True))
        ends = [walked(book, term, lot, row) for row in (least, greatest)]
        self.assertEqual((ends[0][0], ends[1][0]), lot_dues(book, term, lot))
        self.assertEqual((len(least), len(greatest)), lot_steps(book, term, lot))
        for dues, end, left in ends:
            self.assertEqual((end, left), (done(book, term, lot), ()))

    def test_what_is_struck_is_left_out_or_done_first(self):
        book = Book.read("1 pick(X,Y,Z) -> Y\n1 two(X) -> pair(X,X)\n1 one(X) -> X\n")
        term = Term.read("pick(one(a),one(two(one(b))),two(one(c)))")
        lot = step_places(book, term)
        self.assert_equal(least_row(book, term, lot), [(2, 1, 1), (2, 1), (2,), ()])
        self.assert_equal(greatest_row(book, term, lot),
                          [(1,), (3,), (3, 1), (3, 2), (), (), (), (1,), (2,)])

    def test_great_lots(self):
        book, term = BOOKS[2], nested("two", 90, Term("o"))
        lot = step_places(book, term)
        self.assert_equal(least_row(book, term, lot), lot[::-1])
        self.raises("TooMany", [400], greatest_row, book, term, lot)

    def test_bound_of_the_greatest_row(self):
        book = Book.read("1 one(X) -> X\n1 two(X) -> pair(X,X)\n")
        chain = nested("one", 80, Term("o"))
        fits = Term("f", chain, chain, chain, Term("f", chain, nested("one", 79, Term("o")), Term("one", Term("o"))))
        lot = step_places(book, fits)
        self.assertEqual(len(lot), 400)
        row = greatest_row(book, fits, lot)
        self.assertEqual([len(row), row[0], row[79], row[80], row[-1]], [400, (1,), (1,), (2,), (4, 3)])
        more = fits.with_sub((4, 3), nested("one", 2, Term("o")))
        self.raises("TooMany", [400], greatest_row, book, more, step_places(book, more))
        self.assertEqual(len(greatest_row(book, more, lot)), 400)
        self.assertEqual(len(least_row(book, more, step_places(book, more))), 401)

    def test_the_greatest_row_of_copies(self):
        book, term = BOOKS[2], nested("two", 8, Term("o"))
        lot = step_places(book, term)
        row = greatest_row(book, term, lot)
        self.assertEqual([len(row), row], [255, greatest_by_words(book, term, tuple(lot))[0]])
        term = nested("two", 9, Term("o"))
        self.raises("TooMany", [400], greatest_row, book, term, step_places(book, term))

    def test_terms_in_between_have_no_bound(self):
        book, inner = BOOKS[2], nested("two", 20, Term("o"))
        term = Term("fst", Term("pair", Term("o"), inner))
        lot = step_places(book, term)
        self.raises("TooMany", [400], greatest_row, book, term, lot)
        self.assert_equal(least_row(book, term, lot), [()])
        self.assert_equal(next(rows_of_lot(book, term, lot)), ((),))
        short = [(), (1, 2), (1, 2) + (1,) * 15]
        rows = list(rows_of_lot(book, Term("fst", Term("pair", Term("o"), nested("two", 90, Term("o")))), short))
        self.assertEqual([rows[0], rows[1], len(rows)], [((),), ((1, 2), ()), 8])

    def test_first_rows_of_long_lots(self):
        term = nested("one", 90, Term("o"))
        self.assertEqual(next(rows_of_lot(BOOKS[1], term, step_places(BOOKS[1], term))), ((),) * 90)

    def test_rows_are_new(self):
        least_row(BOOK, START, [()]).append(None)
        greatest_row(BOOK, START, [()]).append(None)
        self.assert_equal(least_row(BOOK, START, [()]), [()])
        self.assert_equal(greatest_row(BOOK, START, [()]), [()])


class WrongTest(Case):
    def test_values_that_are_no_starts(self):
        for value in NO_STARTS:
            self.raises("InvalidTerm", [], least_row, BOOK, value, None)
            self.raises("InvalidTerm", [], greatest_row, BOOK, value, None)
            self.raises("InvalidTerm", [], lambda wrong=value: next(rows_of_lot(BOOK, wrong, None)))

    def test_values_that_are_no_lots(self):
        calls = (least_row, greatest_row, lambda *given: next(rows_of_lot(*given)))
        for value in ANY_VALUES:
            for call in calls:
                if not isinstance(value, (list, tuple)):
                    self.raises("InvalidLot", [0], call, BOOK, START, value)
                if value != () or isinstance(value, list):
                    self.raises("NoStep", [0, value], call, BOOK, START, ((2,), value, None))

    def test_no_step_is_ahead_of_too_many(self):
        book, term = BOOKS[2], nested("two", 9, Term("o"))
        lot = step_places(book, term) + [(1,) * 9]
        self.raises("NoStep", [0, (1,) * 9], greatest_row, book, term, lot)

    def test_an_error_comes_with_the_first_item(self):
        rows = rows_of_lot(BOOK, START, None)
        self.raises("InvalidLot", [0], lambda: next(rows))

    def test_lots_are_not_changed(self):
        lot = [(2,), (), (2,)]
        least_row(BOOK, START, lot)
        greatest_row(BOOK, START, lot)
        list(rows_of_lot(BOOK, START, lot))
        self.assertEqual(lot, [(2,), (), (2,)])


if __name__ == "__main__":
    unittest.main()
