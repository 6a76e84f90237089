"""Retellings: signs under other names, arguments in another order."""

import random
import unittest

from remainways.books import Book
from remainways.doing import done, left_lot
from remainways.remains import alike, left
from remainways.layers import key_of
from remainways.retelling import Retelling
from remainways.steps import step_places
from remainways.terms import Term
from remainways.ways import Way
from tests.helper import ANY_VALUES, BOOKS, Case, cases, nested, part_of, places_by_words, shared, signs_of
from tests.waywords import random_lots, random_ways

ROWS = [("add", 2, "plus", (2, 1)), ("plus", 2, "add", (1, 2)), ("o", 0, "null", ()), ("null", 0, "o", ()),
        ("f", 3, "f", (2, 3, 1)), ("f", 1, "f", (1,))]
TERM = Term.read("add(f(o,X,add(_,null)),plus(a,f(f(o),b,c)))")
TOLD = "plus(add(a,f(b,c,f(null))),f(X,plus(o,_),null))"
WRONG = [
    None, True, 5, "add", "addo", (), [], ("a",), ["a", 0, "a", ()], ("a", 0, "a"), ("a", 0, "a", (), ()),
    ("A", 0, "a", ()), ("", 0, "a", ()), ("abcdefghi", 0, "a", ()), (None, 0, "a", ()), (("a",), 0, "a", ()),
    ("a", -1, "a", ()), ("a", 5, "a", (1, 2, 3, 4, 5)), ("a", True, "a", (1,)), ("a", "1", "a", (1,)),
    ("a", None, "a", ()), ("a", (1,), "a", (1,)), ("a", 0, "X", ()), ("a", 0, "_", ()), ("a", 0, "a1", ()),
    ("a", 0, ["a"], ()), ("a", 0, None, ()), ("a", 0, "a", []), ("a", 0, "a", None), ("a", 0, "a", (1,)),
    ("a", 1, "a", ()), ("a", 1, "a", [1]), ("a", 1, "a", (True,)), ("a", 1, "a", (2,)), ("a", 1, "a", (0,)),
    ("a", 1, "a", ("1",)), ("a", 1, "a", 1), ("a", 2, "a", (1, 1)), ("a", 2, "a", (1,)), ("a", 2, "a", (1, 2, 3)),
    ("a", 2, "a", (2, True)), ("a", 2, "a", (2, None)), ("a", 2, "a", ((1,), 2)), ("a", 3, "a", (1, 2, 2)),
    ("a", 4, "a", (0, 1, 2, 3)), Term("a"), (Term("a"), 0, "a", ()),
]


def random_rows(dice, signs):
    """Rows that tell some of these signs and a few others as one another."""
    chosen = [sign for sign in signs + [("x", 0), ("y", 2), ("z", 4)] if dice.random() < 0.7]
    rows = []
    for count in range(5):
        names = [name for name, many in chosen if many == count]
        others = dice.sample(names, len(names))
        rows += [(name, count, new, tuple(dice.sample(range(1, count + 1), count))) for name, new in zip(names, others)]
    dice.shuffle(rows)
    return rows


def told_by_words(rows, term):
    """[8]: a term told otherwise."""
    parts = [told_by_words(rows, part) for part in term.parts()]
    for name, count, new, order in rows:
        if term.sign() == (name, count):
            return Term(new, *[parts[order[at - 1] - 1] for at in range(1, count + 1)])
    return Term(term.word, *parts)


class RowsTest(Case):
    def test_rows_are_told_as_they_were_given(self):
        for rows in (ROWS, tuple(ROWS), [], ()):
            told = Retelling(rows)
            self.assert_equal(told.rows(), list(rows))
            self.assert_equal([len(told), repr(told), bool(told)], [len(rows), f"Retelling({len(rows)} rows)", True])
        self.assert_equal(Retelling(rows=ROWS[:2]).rows(), ROWS[:2])

    def test_one_row_alone(self):
        told = Retelling([("f", 2, "f", (2, 1))])
        self.assertEqual(told.term_told(Term.read("f(f(a,b),c)")).text(), "f(c,f(b,a))")
        self.assertEqual(repr(told), "Retelling(1 rows)")

    def test_each_count_and_each_order(self):
        rows = [("f", count, "f", tuple(range(count, 0, -1))) for count in range(5)]
        self.assertEqual(Retelling(rows).term_told(Term.read("f(f,f(a,b),f(a,b,c),d)")).text(), "f(d,f(c,b,a),f(b,a),f)")

    def test_rows_are_a_new_list_and_copied(self):
        rows = list(ROWS)
        told = Retelling(rows)
        rows.clear()
        told.rows().clear()
        self.assert_equal(told.rows(), ROWS)
        self.assertEqual(told.term_told(TERM).text(), TOLD)

    def test_values_that_are_no_lists(self):
        for value in ANY_VALUES:
            if not isinstance(value, (list, tuple)):
                self.raises("InvalidRow", [-1], Retelling, value)

    def test_items_that_are_no_rows(self):
        for value in ANY_VALUES + WRONG:
            self.raises("InvalidRow", [0], Retelling, [value])
            self.raises("InvalidRow", [6], Retelling, tuple(ROWS) + (value, None))

    def test_signs_that_stand_ahead(self):
        self.raises("InvalidRow", [1], Retelling, [("a", 0, "b", ()), ("a", 0, "a", ()), ("b", 0, "a", ())])
        self.raises("InvalidRow", [2], Retelling, [("a", 0, "b", ()), ("b", 0, "a", ()), ("c", 0, "b", ())])
        self.raises("InvalidRow", [2], Retelling, [("a", 2, "b", (1, 2)), ("b", 2, "a", (1, 2)), ("a", 2, "b", (2, 1))])
        same_name = [("a", 0, "b", ()), ("b", 0, "a", ()), ("a", 1, "b", (1,)), ("b", 1, "a", (1,))]
        self.assertEqual(len(Retelling(same_name)), 4)

    def test_new_signs_that_are_no_old_signs(self):
        self.raises("NotTurned", [0], Retelling, [("a", 0, "b", ())])
        self.raises("NotTurned", [1], Retelling, [("a", 0, "a", ()), ("b", 0, "c", ()), ("c", 0, "d", ())][:2])
        self.raises("NotTurned", [2], Retelling, [("a", 0, "b", ()), ("b", 0, "c", ()), ("c", 0, "d", ())])
        self.raises("NotTurned", [0], Retelling, [("a", 1, "b", (1,)), ("b", 2, "a", (1, 2))])
        self.raises("NotTurned", [1], Retelling, [("a", 0, "a", ()), ("b", 0, "x", ()), ("c", 0, "y", ())])

    def test_wrong_rows_are_ahead_of_not_turned(self):
        self.raises("InvalidRow", [2], Retelling, [("a", 0, "b", ()), ("c", 0, "d", ()), None])
        self.raises("InvalidRow", [1], Retelling, [("a", 0, "b", ()), ("c", 0, "b", ())])


class ToldTest(Case):
    def test_terms(self):
        told = Retelling(ROWS)
        self.assertEqual(told.term_told(TERM).text(), TOLD)
        self.assertEqual(told.term_told(term=Term.read("s(o)")).text(), "s(null)")
        self.assertEqual(TERM.text(), "add(f(o,X,add(_,null)),plus(a,f(f(o),b,c)))")

    def test_holes_and_blanks_stay(self):
        told = Retelling([("f", 2, "f", (2, 1))])
        for text, behind in (("X", "X"), ("_", "_"), ("f(X,_)", "f(_,X)"), ("f(f(_,AB),_)", "f(_,f(AB,_))")):
            self.assertEqual(told.term_told(Term.read(text)).text(), behind)

    def test_no_rows_tell_nothing_otherwise(self):
        told = Retelling([])
        self.assertEqual(told.term_told(TERM), TERM)
        self.assert_equal(told.place_told(TERM, (1, 3, 2)), (1, 3, 2))
        self.assertEqual(told.book_told(BOOKS[3]), BOOKS[3])

    def test_terms_and_places_by_words(self):
        dice = random.Random(1)
        for book, term, steps in cases(80, 61):
            rows = random_rows(dice, signs_of(book))
            told = Retelling(rows)
            behind = told.term_told(term)
            self.assertEqual(behind, told_by_words(rows, term))
            places = [told.place_told(term, place) for place in places_by_words(term)]
            self.assertEqual(sorted(places), places_by_words(behind))
            for place, moved in zip(places_by_words(term), places):
                self.assertEqual(behind.sub(moved), told.term_told(term.sub(place)))

    def test_values_that_are_no_places(self):
        told = Retelling(ROWS)
        for value in ANY_VALUES + [(3,), (1, 1, 1), (1, 2, 1), (1, True), [1], ("1",)]:
            if not (isinstance(value, tuple) and value in ((), (1,))) or (value and value[0] is True):
                self.raises("NoPlace", [value], told.place_told, TERM, value)
                self.raises("NoPlace", [value], told.lot_told, TERM, [(1,), value, (9,)])
                self.raises("NoPlace", [value], told.lot_told, TERM, (value, (9,)))
        self.assert_equal(told.place_told(term=TERM, place=(1, 3, 1)), (2, 2, 2))

    def test_lots(self):
        told = Retelling(ROWS)
        self.assert_equal(told.lot_told(TERM, [(2,), (1, 3), (), (2,)]), ((), (1,), (2, 2)))
        self.assert_equal(told.lot_told(term=TERM, lot=((1,), (2,))), ((1,), (2,)))
        self.assert_equal([told.lot_told(TERM, []), told.lot_told(TERM, ())], [(), ()])

    def test_books(self):
        book = Book.read("1 add(o,Y) -> Y\n7 add(s(X),Y) -> s(add(X,Y))\n")
        told = Retelling(ROWS).book_told(book=book)
        self.assertEqual(told.text(), "1 plus(Y,null) -> Y\n7 plus(Y,s(X)) -> s(plus(Y,X))\n")
        self.assertEqual(book.text(), "1 add(o,Y) -> Y\n7 add(s(X),Y) -> s(add(X,Y))\n")

    def test_books_by_words(self):
        dice = random.Random(2)
        for book in BOOKS * 10:
            rows = random_rows(dice, signs_of(book))
            told = Retelling(rows).book_told(book)
            self.assertEqual(len(told), len(book))
            for rule, other in zip(book, told):
                self.assertEqual(other.left, told_by_words(rows, rule.left))
                self.assertEqual(other.right, told_by_words(rows, rule.right))
                self.assertEqual(other.due, rule.due)

    def test_ways(self):
        book = Book.read("1 one(X) -> X\n")
        way = Way.read(book, Term.read("f(one(one(a)),one(b))"), "1+2;0;1")
        told = Retelling([("f", 2, "g", (2, 1)), ("g", 2, "f", (2, 1)), ("one", 1, "uno", (1,)), ("uno", 1, "one", (1,))])
        behind = told.way_told(way=way)
        self.assertEqual([behind.book.text(), behind.start.text()], ["1 uno(X) -> X\n", "g(uno(b),uno(uno(a)))"])
        self.assertEqual([behind.text(), behind.end.text()], ["1+2;0;2", "g(b,a)"])

    def test_doing_and_telling_in_both_orders(self):
        dice = random.Random(3)
        for book, term, steps in cases(80, 67):
            told = Retelling(random_rows(dice, signs_of(book)))
            other, start = told.book_told(book), told.term_told(term)
            self.assert_equal(told.lot_told(term, steps), tuple(step_places(other, start)))
            lot, beside = part_of(dice, steps), part_of(dice, steps)
            moved = told.lot_told(term, lot)
            behind = done(book, term, lot)
            self.assertEqual(done(other, start, moved), told.term_told(behind))
            rest = left_lot(other, start, told.lot_told(term, beside), moved)
            self.assert_equal(rest, told.lot_told(behind, left_lot(book, term, beside, lot)))

    def test_ways_in_both_orders(self):
        dice = random.Random(4)
        for one, other in random_ways(60, 71):
            told = Retelling(random_rows(dice, signs_of(one.book)))
            moved, beside = told.way_told(one), told.way_told(other)
            self.assertEqual(moved.terms(), [told.term_told(term) for term in one.terms()])
            self.assertEqual(left(moved, beside), told.way_told(left(one, other)))
            self.assertIs(alike(moved, beside), alike(one, other))
            self.assertEqual(len(key_of(moved).split(";")), len(key_of(one).split(";")))

    def test_great_terms(self):
        told = Retelling([("p", 2, "q", (2, 1)), ("q", 2, "p", (1, 2))])
        great = Term("f", shared("p", 90, Term("o")), nested("p", 1, Term("o")))
        behind = told.term_told(great)
        self.assertEqual(behind, Term("f", shared("q", 90, Term("o")), Term.read("p(o)")))
        self.assertEqual(told.back().term_told(behind), great)
        self.assert_equal(told.place_told(great, (1,) + (1, 2) * 45), (1,) + (2, 1) * 45)
        deep = nested("p", 5000, Term("X"))
        self.assertEqual(told.term_told(deep), deep)


class BackTest(Case):
    def test_rows_told_back(self):
        back = Retelling(ROWS).back()
        wanted = [("plus", 2, "add", (2, 1)), ("add", 2, "plus", (1, 2)), ("null", 0, "o", ()), ("o", 0, "null", ()),
                  ("f", 3, "f", (3, 1, 2)), ("f", 1, "f", (1,))]
        self.assert_equal(back.rows(), wanted)
        self.assert_equal(back.back().rows(), ROWS)
        self.assertEqual(back.term_told(Term.read(TOLD)), TERM)

    def test_told_back_it_is_the_same(self):
        dice = random.Random(5)
        for book, term, steps in cases(60, 73):
            told = Retelling(random_rows(dice, signs_of(book)))
            back = told.back()
            self.assertEqual(back.term_told(told.term_told(term)), term)
            self.assertEqual(told.term_told(back.term_told(term)), term)
            self.assertEqual(back.book_told(told.book_told(book)), book)
            behind = told.term_told(term)
            for place in places_by_words(term):
                self.assertEqual(back.place_told(behind, told.place_told(term, place)), place)
            way = Way(book, term, random_lots(dice, book, term, 3))
            self.assertEqual(back.way_told(told.way_told(way)), way)
            self.assert_equal(back.lot_told(behind, told.lot_told(term, steps)), tuple(steps))


if __name__ == "__main__":
    unittest.main()
