"""Rules: sides, dues, the errors of the constructor."""

import unittest
from unittest import mock

from remainways.rules import Rule
from remainways.terms import Term
from tests.helper import ANY_VALUES, BOOKS, Case, nested, right_places, shared, sized

GREATEST = 10 ** 30 - 1


def rule(left, right, due=1):
    """The rule with these texts of its sides."""
    return Rule(Term.read(left), Term.read(right), due=due)


class MakeTest(Case):
    def test_attributes(self):
        left, right = Term.read("add(s(X),Y)"), Term.read("s(add(X,Y))")
        made = Rule(left, right)
        self.assertEqual([made.left, made.right, made.due], [left, right, 1])
        made = Rule(left=left, right=right, due=7)
        self.assertEqual([made.left, made.right, made.due], [left, right, 7])

    def test_due_is_keyword_only(self):
        with self.assertRaises(TypeError):
            Rule(Term("o"), Term("o"), 1)

    def test_right_sides_of_each_kind(self):
        for right in ("X", "o", "f(X,X,X)", "one(X)", "g(o,h(X))"):
            self.assertEqual(rule("one(X)", right).right.text(), right)

    def test_left_sides_that_are_none(self):
        lefts = [value for value in ANY_VALUES if not isinstance(value, Term)]
        for value in lefts + [Term("X"), Term("_"), Term.read("f(_)"), Term.read("f(g(X,_))")]:
            self.raises("InvalidSide", ["left"], Rule, value, Term("o"))

    def test_right_sides_that_are_none(self):
        rights = [value for value in ANY_VALUES if not isinstance(value, Term)]
        for value in rights + [Term("_"), Term.read("f(X,_)")]:
            self.raises("InvalidSide", ["right"], Rule, Term.read("f(X)"), value)

    def test_bound_of_sides(self):
        left, right = nested("s", 23, Term("X")), nested("t", 23, Term("X"))
        self.assertEqual(len(Rule(left, right).left), 24)
        self.raises("TooMany", [24], Rule, nested("s", 24, Term("X")), right)
        self.raises("TooMany", [24], Rule, left, nested("t", 24, Term("X")))
        self.raises("TooMany", [24], Rule, sized(2001), Term("o"))
        self.raises("TooMany", [24], Rule, Term("o"), nested("t", 1500, Term("o")))

    def test_sides_without_bound(self):
        for many in (24, 39, 40, 60, 90, 2000):
            for inside in (Term("X"), Term("o")):
                great = shared("p", many, inside)
                self.raises("TooMany", [24], Rule, great, Term("o"))
                self.raises("TooMany", [24], Rule, Term("o"), great)
                self.raises("TooMany", [24], Rule, great, great)
                self.raises("TooMany", [24], Rule, Term("f", great), Term("X"), due=-1)

    def test_sides_without_bound_are_judged_by_their_kind_first(self):
        great = shared("p", 40, Term("o"))
        self.raises("InvalidSide", ["left"], Rule, Term("f", great, Term("_")), great)
        self.raises("InvalidSide", ["right"], Rule, great, shared("p", 40, Term("_")))

    def test_no_len_is_asked_of_sides(self):
        # A list of as many items as a term has places is made for each len.
        with mock.patch.object(Term, "__len__", side_effect=AssertionError):
            self.assertEqual(rule("f(X,g(Y))", "h(Y)").due, 1)
            self.raises("TooMany", [24], Rule, shared("p", 40, Term("X")), Term("o"))
            self.raises("TooMany", [24], Rule, Term("o"), shared("p", 59, Term("o")))

    def test_holes_twice(self):
        self.raises("TwiceHole", ["X"], rule, "f(X,X)", "o")
        self.raises("TwiceHole", ["Y"], rule, "f(X,g(Y,Y),X)", "o")
        self.raises("TwiceHole", ["X"], rule, "f(X,g(Y,X),Y)", "o")
        self.raises("TwiceHole", ["AB"], rule, "f(A,B,AB,h(AB))", "o")

    def test_loose_holes(self):
        self.raises("LooseHole", ["Y"], rule, "f(X)", "Y")
        self.raises("LooseHole", ["Z"], rule, "f(X)", "g(X,h(Z),Y)")
        self.raises("LooseHole", ["Y"], rule, "f(X)", "g(h(X,Y),Z)")
        self.raises("LooseHole", ["X"], rule, "o", "X")

    def test_bounds_of_dues(self):
        for due in (0, 1, 10 ** 9, GREATEST):
            self.assert_equal(rule("o", "o", due).due, due)
        for due in (-1, GREATEST + 1, 10 ** 40, True, False):
            self.raises("InvalidDue", [due], rule, "o", "o", due)

    def test_values_that_are_no_dues(self):
        for value in ANY_VALUES:
            if value is True or not isinstance(value, int):
                self.raises("InvalidDue", [value], rule, "o", "o", value)

    def test_order_of_errors(self):
        great, twice, loose = sized(25), Term.read("f(X,X)"), Term.read("f(Y)")
        self.raises("InvalidSide", ["left"], Rule, "f", "g", due=-1)
        self.raises("InvalidSide", ["left"], Rule, Term("X"), Term("_"))
        self.raises("InvalidSide", ["right"], Rule, great, Term("_"), due=-1)
        self.raises("InvalidSide", ["right"], Rule, twice, None, due=-1)
        self.raises("TooMany", [24], Rule, twice, great, due=-1)
        self.raises("TooMany", [24], Rule, great, loose, due=-1)
        self.raises("TwiceHole", ["X"], Rule, twice, loose, due=-1)
        self.raises("LooseHole", ["Y"], Rule, Term.read("f(X)"), loose, due=-1)


class KindTest(Case):
    def test_copies_and_strikes(self):
        rows = {
            ("one(X)", "X"): (False, False), ("two(X)", "pair(X,X)"): (True, False), ("o", "o"): (False, False),
            ("fst(pair(X,Y))", "X"): (False, True), ("f(X,Y)", "g(X,X)"): (True, True), ("f(X)", "o"): (False, True),
            ("swap(X,Y)", "swap(Y,X)"): (False, False), ("f(X,Y)", "g(X,h(Y,h(X,o)))"): (True, False),
            ("f(X,Y,Z)", "g(Z,X)"): (False, True),
        }
        for (left, right), (copies, strikes) in rows.items():
            self.assertIs(rule(left, right).copies(), copies)
            self.assertIs(rule(left, right).strikes(), strikes)

    def test_places_of_holes(self):
        made = rule("f(X,Y,Z)", "g(Y,h(X,Y),Y,o)")
        self.assert_equal(made.hole_places("Y"), [(1,), (2, 2), (3,)])
        self.assert_equal(made.hole_places(hole="X"), [(2, 1)])
        self.assert_equal(made.hole_places("Z"), [])
        self.assert_equal([made.times(hole) for hole in ("X", "Y", "Z", "W")], [1, 3, 0, 0])
        self.assertEqual(made.times(hole="Y"), 3)
        self.assert_equal(rule("one(X)", "X").hole_places("X"), [()])

    def test_places_of_holes_are_a_new_list(self):
        made = rule("two(X)", "pair(X,X)")
        made.hole_places("X").append(())
        made.hole_places("W").append(())
        self.assert_equal(made.hole_places("X"), [(1,), (2,)])
        self.assert_equal(made.hole_places("W"), [])

    def test_values_that_are_no_holes(self):
        made = rule("two(X)", "pair(X,X)")
        for value in ANY_VALUES:
            many = 2 if value == "X" else 0
            self.assert_equal(made.times(value), many)
            self.assertEqual(len(made.hole_places(value)), many)
        self.assertEqual(made.times("pair"), 0)

    def test_holes_of_all_books(self):
        for book in BOOKS:
            for one in book.rules():
                for hole in one.left.holes():
                    self.assertEqual(one.hole_places(hole), right_places(one, hole))
                    self.assertEqual(one.times(hole), len(right_places(one, hole)))


class TextTest(Case):
    def test_texts(self):
        made = rule("add(s(X),Y)", "s(add(X,Y))")
        self.assertEqual(made.text(), "1 add(s(X),Y) -> s(add(X,Y))")
        self.assertEqual(str(made), made.text())
        self.assertEqual(repr(rule("one(X)", "X", 12)), "Rule(one(X) -> X)")
        self.assertEqual(rule("o", "o", 0).text(), "0 o -> o")
        self.assertEqual(rule("o", "p", GREATEST).text(), "9" * 30 + " o -> p")

    def test_equal_sides_and_dues(self):
        made = rule("one(X)", "X", 2)
        self.assertEqual(made, rule("one(X)", "X", 2))
        for other in (rule("one(X)", "X"), rule("one(Y)", "Y", 2), rule("one(X)", "o", 2), rule("two(X)", "X", 2)):
            self.assertIs(made == other, False)
            self.assertIs(made != other, True)

    def test_nothing_of_another_class_is_equal(self):
        for value in ANY_VALUES + ["1 o -> o"]:
            self.assertIs(rule("o", "o") == value, False)

    def test_always_true(self):
        self.assertTrue(rule("o", "o", 0))


if __name__ == "__main__":
    unittest.main()
