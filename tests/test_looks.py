"""Doers, split books and trees of looks."""

import unittest

from remainways.books import Book
from remainways.looks import check_split, doers, stuck, tree
from remainways.terms import Term
from tests.helper import ANY_VALUES, BOOKS, Case
from tests.lookwords import (doers_by_words, not_split_by_words, random_books, stopped_by_words, stuck_books,
                             tree_by_words)

SUMS = BOOKS[3]
# No two of these rules ask at one place alone, and none at a place at which all do.
ROUND = "1 g(a,b,X) -> o\n1 g(X,a,b) -> o\n1 g(b,X,a) -> o\n"
BOOKS_DRAWN = random_books(160, 2201) + stuck_books(100, 2202)
WITH_TREE = [(book, doer) for book in BOOKS_DRAWN for doer in doers_by_words(book) if not stopped_by_words(book, doer)]
WITHOUT = [(book, doer) for book in BOOKS_DRAWN for doer in doers_by_words(book) if stopped_by_words(book, doer)]


def rules_in(found):
    """The rules of a tree, in its order."""
    if found[0] == "rule":
        return [found[1]]
    return [rule for sign, inner in found[2] for rule in rules_in(inner)]


class DoersTest(Case):
    def test_ordinary_books(self):
        self.assert_equal(doers(SUMS), [("add", 2), ("mul", 2)])
        self.assert_equal(doers(book=BOOKS[6]), [("drop", 1), ("keep", 2), ("ring", 0), ("three", 1)])
        self.assert_equal(doers(Book()), [])
        # Ascending by the names, then by the numbers of arguments.
        book = Book.read("1 b -> o\n1 a(X,Y) -> o\n1 a(X) -> o\n1 a(X,Y,Z) -> o\n1 aa -> o\n")
        self.assert_equal(doers(book), [("a", 1), ("a", 2), ("a", 3), ("aa", 0), ("b", 0)])
        for drawn in BOOKS_DRAWN:
            self.assert_equal(doers(drawn), doers_by_words(drawn))

    def test_the_list_is_new(self):
        doers(SUMS).clear()
        self.assertEqual(len(doers(SUMS)), 2)


class SplitTest(Case):
    def test_split_books(self):
        for book in [SUMS, Book(), BOOKS[1], Book.read(ROUND)] + BOOKS_DRAWN:
            self.assertIsNone(check_split(book))
            self.assertIsNone(check_split(book=book))
            self.assertIsNone(not_split_by_words(book))

    def test_the_least_pair(self):
        rows = (("1 f(g(s(X))) -> o\n1 g(o) -> o\n", 0, (1,)), ("1 h(b) -> o\n1 f(a,p(h(a),h(c))) -> o\n", 1, (2, 1)),
                ("1 f(p(a,h(a)),h(o)) -> o\n1 h(s(X)) -> X\n1 k(f(o,Y)) -> Y\n", 0, (1, 2)),
                ("1 k(s(k(b)),b) -> o\n1 k(a) -> o\n", 0, (1, 1)),
                ("1 q(a) -> o\n1 f(X,s(s(q(b)))) -> o\n1 h(q(c)) -> o\n", 1, (2, 1, 1)))
        for text, rule, place in rows:
            book = Book.read(text)
            self.assertEqual(not_split_by_words(book), (rule, place))
            self.raises("NotSplit", [rule, place], check_split, book)
            for call in (tree, stuck):
                # Ahead of what the doer is.
                for doer in doers(book) + ANY_VALUES + [("x", 1)]:
                    self.raises("NotSplit", [rule, place], call, book, doer)

    def test_one_name_with_another_number_of_arguments_is_no_doer(self):
        self.assertIsNone(check_split(Book.read("1 k(s(k(X,Y))) -> o\n")))
        self.raises("NotSplit", [0, (1, 1)], check_split, Book.read("1 k(s(k(a))) -> o\n"))


class TreeTest(Case):
    def test_the_example(self):
        wanted = ("look", (1,), ((("o", 0), ("rule", 0)), (("s", 1), ("rule", 1))))
        self.assert_equal(tree(SUMS, ("add", 2)), wanted)
        self.assert_equal(tree(book=SUMS, doer=("mul", 2)), ("look", (1,), ((("o", 0), ("rule", 2)), (("s", 1), ("rule", 3)))))

    def test_ordinary_trees(self):
        book = Book.read("1 n -> o\n1 one(X) -> X\n1 m(X,s(s(Y))) -> o\n1 k(p(a,X),b) -> o\n1 k(p(b,s(X)),Y) -> o\n"
                         "1 k(a,a) -> o\n1 k(a,b) -> o\n")
        self.assert_equal(tree(book, ("n", 0)), ("rule", 0))
        self.assert_equal(tree(book, ("one", 1)), ("rule", 1))
        self.assert_equal(tree(book, ("m", 2)), ("look", (2,), ((("s", 1), ("look", (2, 1), ((("s", 1), ("rule", 2)),))),)))
        # Signs in ascending order, though their rules stand in another; places beneath ahead of places further right.
        self.assert_equal(tree(book, ("k", 2)), ("look", (1,), (
            (("a", 0), ("look", (2,), ((("a", 0), ("rule", 5)), (("b", 0), ("rule", 6))))),
            (("p", 2), ("look", (1, 1), (
                (("a", 0), ("look", (2,), ((("b", 0), ("rule", 3)),))),
                (("b", 0), ("look", (1, 2), ((("s", 1), ("rule", 4)),)))))))))

    def test_the_first_place_at_which_all_ask(self):
        book = Book.read("1 t(X,a,b) -> o\n1 t(s(X),b,b) -> o\n1 t(X,c,b) -> o\n")
        self.assert_equal(tree(book, ("t", 3))[:2], ("look", (2,)))
        branch = dict(tree(book, ("t", 3))[2])[("b", 0)]
        self.assert_equal(branch, ("look", (1,), ((("s", 1), ("look", (3,), ((("b", 0), ("rule", 1)),))),)))

    def test_by_words(self):
        for book, doer in WITH_TREE:
            self.assert_equal(tree(book, doer), tree_by_words(book, doer))
            self.assertIsNone(stuck(book, doer))
            self.assertEqual(sorted(rules_in(tree(book, doer))), book.rules_for(doer))
        self.assertGreater(len([row for row in WITH_TREE if len(row[0].rules_for(row[1])) > 1]), 100)

    def test_great_books(self):
        rules = "".join(f"1 f({'p(' * at}a{',X' + 'ABCDEFGHIJK'[at - 1] + ')' if at else ''}" + "".join(
            f",X{'ABCDEFGHIJK'[at - 2 - k]})" for k in range(at - 1)) + ") -> o\n" for at in range(11))
        book = Book.read(rules)
        found, depth = tree(book, ("f", 1)), 0
        while found[0] == "look":
            found, depth = found[2][-1][1], depth + 1
        self.assertEqual([found, depth], [("rule", 10), 11])
        signs = [f"{first}{second}" for first in "abcd" for second in "uvwxyz"]
        book = Book.read("".join(f"1 f({sign}) -> o\n" for sign in reversed(signs)))
        self.assert_equal(tree(book, ("f", 1)), ("look", (1,), tuple(((sign, 0), ("rule", 23 - at)) for at, sign in enumerate(signs))))

    def test_values_that_are_no_doers(self):
        for book in (SUMS, Book(), Book.read(ROUND)):
            for value in ANY_VALUES + [("add", 1), ("s", 1), ("o", 0), ["add", 2], ("add", 2, 0), "add", ("add", True), (("add", 2),),
                                       ("add", "2"), ([], 2), (None, 2)]:
                for call in (tree, stuck):
                    self.raises("UnknownDoer", [value], call, book, value)
        self.raises("UnknownDoer", [("one", True)], tree, BOOKS[1], ("one", True))


class StuckTest(Case):
    def test_alone(self):
        book = Book.read(ROUND)
        piece = Term.read("g(_,_,_)")
        self.raises("NoTree", [("g", 3), (0, 1, 2), piece], tree, book, ("g", 3))
        self.assert_equal(stuck(book, ("g", 3)), ((0, 1, 2), piece, [((1,), 1), ((2,), 2), ((3,), 0)]))
        self.assert_equal(stuck(book=book, doer=("g", 3)), stuck(book, ("g", 3)))

    def test_under_a_maker(self):
        book = Book.read("1 z -> o\n1 m(p(a,b,X)) -> o\n1 m(p(X,a,b)) -> o\n1 m(o) -> o\n1 m(p(b,X,a)) -> o\n")
        piece = Term.read("m(p(_,_,_))")
        self.raises("NoTree", [("m", 1), (1, 2, 4), piece], tree, book, ("m", 1))
        self.assert_equal(stuck(book, ("m", 1)), ((1, 2, 4), piece, [((1, 1), 2), ((1, 2), 4), ((1, 3), 1)]))
        self.assert_equal([tree(book, ("z", 0)), stuck(book, ("z", 0))], [("rule", 0), None])

    def test_behind_a_look(self):
        book = Book.read("1 g(c,a,b,X) -> o\n1 g(c,X,a,b) -> o\n1 g(c,b,X,a) -> o\n1 g(a,X,Y,Z) -> o\n1 g(s(X),s(Y),Z,U) -> o\n")
        piece = Term.read("g(c,_,_,_)")
        self.raises("NoTree", [("g", 4), (0, 1, 2), piece], tree, book, ("g", 4))
        self.assert_equal(stuck(book, ("g", 4)), ((0, 1, 2), piece, [((2,), 1), ((3,), 2), ((4,), 0)]))

    def test_the_first_of_several(self):
        # The branch of the lesser sign is gone through with all that is beneath it.
        lines = [f"1 h({top},{sides}) -> o\n" for top in ("b", "s(b)", "s(a)", "p") for sides in ("a,b,X", "X,a,b", "b,X,a")]
        book = Book.read("".join(lines))
        self.assert_equal(stuck(book, ("h", 4))[:2], ((0, 1, 2), Term.read("h(b,_,_,_)")))
        book = Book.read("".join(lines[3:]))
        self.assert_equal(stuck(book, ("h", 4))[:2], ((6, 7, 8), Term.read("h(p,_,_,_)")))
        book = Book.read("".join(lines[3:9]))
        self.assert_equal(stuck(book, ("h", 4))[:2], ((3, 4, 5), Term.read("h(s(a),_,_,_)")))
        self.raises("NoTree", [("h", 4), (3, 4, 5), Term.read("h(s(a),_,_,_)")], tree, book, ("h", 4))

    def test_open_places_of_which_some_rules_know_nothing(self):
        book = Book.read("1 k(p(a,X),b,c,Y) -> o\n1 k(p(X,Y),a,b,Z) -> o\n1 k(p(b,X),Y,a,Z) -> o\n1 k(p(c,X),b,a,s(Y)) -> o\n")
        if stuck(book, ("k", 4)) is not None:
            self.assert_equal(stuck(book, ("k", 4))[1], Term.read("k(p(_,_),_,_,_)"))
        for wanted in [row for row in [stopped_by_words(book, ("k", 4))] if row]:
            self.assert_equal([place for place, rule in stuck(book, ("k", 4))[2]], wanted[2])

    def test_by_words(self):
        for book, doer in WITHOUT:
            sides, text, places = stopped_by_words(book, doer)
            piece = Term.read(text)
            self.raises("NoTree", [doer, sides, piece], tree, book, doer)
            found = stuck(book, doer)
            self.assert_equal([found[:2], [place for place, rule in found[2]]], [(sides, piece), places])
            for place, rule in found[2]:
                silent = [side for side in sides if book.rules()[side].left.sub(place).sign() is None]
                self.assertEqual(rule, min(silent))
        self.assertGreater(len(WITHOUT), 30)

    def test_lists_that_are_told_are_new(self):
        book = Book.read(ROUND)
        stuck(book, ("g", 3))[2].clear()
        self.assertEqual(len(stuck(book, ("g", 3))[2]), 3)
        self.assertEqual(book.text(), ROUND)


if __name__ == "__main__":
    unittest.main()
