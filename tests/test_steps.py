"""Step places, the rules that fit there, lots."""

import random
import unittest

from remainways.books import Book
from remainways.steps import lot_of, rule_at, step_places, walk_steps
from remainways.terms import Term
from tests.helper import ANY_VALUES, BOOKS, Case, cases, nested, part_of, rule_by_words, sized, steps_by_words

BOOK = BOOKS[3]
START = Term.read("mul(s(s(o)),add(s(o),o))")
NO_STARTS = ANY_VALUES[:-4] + [Term("X"), Term("_"), Term.read("add(o,X)"), Term.read("add(_,o)"), (Term("a"),),
                               sized(2001), nested("s", 100, Term("o")), "add(o,o)"]
CASES = cases(150, 11)


class StepsTest(Case):
    def test_values_that_are_no_starts(self):
        for value in NO_STARTS:
            self.raises("InvalidTerm", [], rule_at, BOOK, value, "wrong")
            self.raises("InvalidTerm", [], step_places, BOOK, value)
            self.raises("InvalidTerm", [], lambda wrong=value: next(walk_steps(BOOK, wrong)))
            self.raises("InvalidTerm", [], lot_of, BOOK, value, "wrong")

    def test_starts_just_at_the_bounds(self):
        self.assertEqual(step_places(BOOK, sized(2000)), [])
        self.assertEqual(step_places(BOOKS[1], nested("one", 99, Term("o"))), [(1,) * many for many in range(99)])

    def test_rules_that_fit(self):
        self.assert_equal([rule_at(BOOK, START, place) for place in START.places()],
                          [3, None, None, None, 1, None, None, None])
        self.assertEqual(rule_at(book=BOOK, term=START, place=(2,)), 1)
        for value in ANY_VALUES + [(1, 1, 1, 1), (3,), (True,), [2], (2, True)]:
            index = 3 if value == () and isinstance(value, tuple) else None
            self.assert_equal(rule_at(BOOK, START, value), index)

    def test_a_rule_needs_each_sign_of_its_left_side(self):
        book = Book.read("1 f(g(X,o),h(Y)) -> o\n1 f(g(X,s(Z)),h(Y)) -> o\n")
        rows = {"f(g(a,o),h(b))": 0, "f(g(a,s(a)),h(b))": 1, "f(g(a,a),h(b))": None, "f(g(a,o),h(b,b))": None,
                "f(g(a,o),b)": None, "f(g(a,o))": None, "f(g(a,o),h(f(a,a)))": 0, "f(h(a,o),g(b))": None}
        for text, index in rows.items():
            self.assert_equal(rule_at(book, Term.read(text), ()), index)

    def test_step_places_by_words(self):
        for book, term, steps in CASES:
            self.assert_equal(step_places(book, term), steps)
            pairs = [(place, rule_by_words(book, term, place)) for place in steps]
            self.assert_equal(list(walk_steps(book, term)), pairs)
            for place in term.places():
                self.assert_equal(rule_at(book, term, place), rule_by_words(book, term, place))
        self.assertGreater(sum(len(steps) for book, term, steps in CASES), 300)
        self.assertEqual(step_places(book=BOOK, term=START), steps_by_words(BOOK, START))
        self.assertEqual(next(walk_steps(book=BOOK, term=START)), ((), 3))

    def test_step_places_are_a_new_list(self):
        step_places(BOOK, START).append(None)
        self.assert_equal(step_places(BOOK, START), [(), (2,)])

    def test_an_error_comes_with_the_first_item(self):
        pairs = walk_steps(BOOK, None)
        self.raises("InvalidTerm", [], lambda: next(pairs))

    def test_books_without_rules(self):
        self.assertEqual(step_places(BOOKS[0], START), [])
        self.assertEqual(lot_of(BOOKS[0], START, []), ())


class LotTest(Case):
    def test_lots_in_any_order_with_places_twice(self):
        wanted = ((), (2,))
        for lot in ([(), (2,)], [(2,), ()], ((2,), ()), [(2,), (), (2,), (2,)], ((), (2,), ())):
            self.assert_equal(lot_of(BOOK, START, lot), wanted)
        self.assert_equal(lot_of(BOOK, START, []), ())
        self.assert_equal(lot_of(BOOK, START, ()), ())
        self.assert_equal(lot_of(book=BOOK, term=START, lot=[(2,)]), ((2,),))
        dice = random.Random(3)
        for book, term, steps in CASES:
            chosen = part_of(dice, steps)
            self.assert_equal(lot_of(book, term, chosen + chosen[:1]), tuple(sorted(chosen)))

    def test_values_that_are_no_lots(self):
        for value in ANY_VALUES:
            if not isinstance(value, (list, tuple)):
                self.raises("InvalidLot", [0], lot_of, BOOK, START, value)

    def test_items_that_are_no_step_places(self):
        for value in ANY_VALUES + [(1,), (1, 1), (2, 1), (3,), (2, 1, 1, 1), [2], [], (True,)]:
            if value != () or isinstance(value, list):
                self.raises("NoStep", [0, value], lot_of, BOOK, START, [value])
                self.raises("NoStep", [0, value], lot_of, BOOK, START, ((2,), value, None))

    def test_lots_are_not_changed(self):
        lot = [(2,), (), (2,)]
        lot_of(BOOK, START, lot)
        self.assertEqual(lot, [(2,), (), (2,)])


if __name__ == "__main__":
    unittest.main()
