"""Books: overlaps, the texts of books, what books tell of their rules."""

import itertools
import random
import unittest

from remainways.books import Book, stand_on
from remainways.rules import Rule
from remainways.terms import Term
from tests.helper import ANY_VALUES, BOOKS, Case, names_by_words, nested, put_in, shared

LINE = "1 add(s(X),Y) -> s(add(X,Y))\n"


def rule(text, due=1):
    """The rule with the text of its sides."""
    left, right = text.split(" -> ")
    return Rule(Term.read(left), Term.read(right), due=due)


def rules(*texts):
    """The rules with the texts of their sides."""
    return [rule(text) for text in texts]


def stands_by_words(one, other, place):
    """[7]: no two signs differ where both left sides have a name."""
    signs = names_by_words(one.left)
    below = {place + at: sign for at, sign in names_by_words(other.left).items()}
    return place in signs and all(signs.get(at, sign) == sign for at, sign in below.items())


class OverlapTest(Case):
    def overlap(self, texts, one, other, place, piece):
        """The book of these rules overlaps so, whichever way it is made."""
        made = rules(*texts)
        told = [one, other, place, Term.read(piece)]
        self.raises("Overlaps", told, Book, *made)
        self.raises("Overlaps", told, Book.read, "".join(f"1 {text}\n" for text in texts))
        begun = Book()
        for ahead in made[:-1]:
            begun = begun.with_rule(ahead)
        self.raises("Overlaps", told, begun.with_rule, made[-1])
        self.raises("Overlaps", told, lambda: begun + made[-1])

    def test_overlaps(self):
        self.overlap(["or(yes,X) -> yes", "or(X,yes) -> yes"], 0, 1, (), "or(yes,yes)")
        self.overlap(["f(f(X)) -> o"], 0, 0, (1,), "f(f(f(_)))")
        self.overlap(["one(X) -> X", "two(one(X)) -> X"], 1, 0, (1,), "two(one(_))")
        self.overlap(["g(h(X)) -> X", "h(o) -> o"], 0, 1, (1,), "g(h(o))")
        self.overlap(["one(X) -> X", "one(Y) -> o"], 0, 1, (), "one(_)")
        self.overlap(["a(b(c(X),Y)) -> X", "b(Z,d(W)) -> o"], 0, 1, (1,), "a(b(c(_),d(_)))")
        self.overlap(["o -> o", "f(X,g(o)) -> X"], 1, 0, (2, 1), "f(_,g(o))")
        self.overlap(["n -> o", "f(g(X,h(Y)),s(Z)) -> o", "f(g(a,W),V) -> o"], 1, 2, (), "f(g(a,h(_)),s(_))")

    def test_the_least_overlap_is_told(self):
        made = rules("f(f(X)) -> X", "f(f(f(Y))) -> o")
        self.raises("Overlaps", [0, 0, (1,), Term.read("f(f(f(_)))")], Book, *made)
        self.overlap(["a(b(X),b(Y)) -> X", "b(o) -> o"], 0, 1, (1,), "a(b(o),b(_))")
        made = rules("b(c(X)) -> X", "a(b(Y)) -> Y", "c(o) -> o")
        self.raises("Overlaps", [0, 2, (1,), Term.read("b(c(o))")], Book, *made)
        made = rules("b(X) -> X", "c(X) -> X", "a(c(X),b(Y)) -> o")
        self.raises("Overlaps", [2, 0, (2,), Term.read("a(c(_),b(_))")], Book, *made)

    def test_no_overlaps(self):
        for texts in (
            ["add(o,Y) -> Y", "add(s(X),Y) -> o"], ["one(X) -> X", "one(X,Y) -> X"], ["f(g(X)) -> X", "h(g(X)) -> X"],
            ["f(f(X,a),b) -> X"], ["f(X) -> f(X)"], ["a -> b", "b -> a"], ["f(X,b) -> f(f(a,b),b)", "g(X) -> f(X,b)"],
        ):
            self.assertEqual([one.text()[2:] for one in Book(*rules(*texts))], texts)

    def test_stand_on(self):
        one, other = rules("f(g(X),h(o)) -> o", "g(h(Y)) -> o")
        self.assertIs(stand_on(one, other, (1,)), True)
        self.assertIs(stand_on(one, other, ()), False)
        self.assertIs(stand_on(one, other, (1, 1)), False)
        self.assertIs(stand_on(one, other, (2,)), False)
        self.assertIs(stand_on(one, one, ()), True)
        self.assertIs(stand_on(one=one, other=other, place=(1,)), True)
        for value in ANY_VALUES:
            if value not in ((1,), ()) or isinstance(value, list):
                self.assertIs(stand_on(one, other, value), False)
        self.assertIs(stand_on(one, other, [1]), False)
        self.assertIs(stand_on(one, other, (True,)), False)

    def test_stand_on_by_words(self):
        dice = random.Random(7)
        sides = ["f(X)", "f(g(X))", "g(f(X))", "f(f(X))", "h(X,Y)", "h(f(X),Y)", "h(X,g(Y))", "h(f(o),g(g(X)))", "o",
                 "h(h(X,o),Y)", "h(h(f(X),Y),h(o,Z))", "g(h(X,Y))", "f(h(X,h(o,Y)))"]
        found = 0
        for left, right in itertools.product(sides, sides):
            one, other = rule(left + " -> o"), rule(right + " -> o")
            for place in one.left.places() + [(3,), (1, 1, 1, 1)]:
                stands = stand_on(one, other, place)
                self.assertIs(stands, stands_by_words(one, other, place))
                if stands and (place or left != right) and dice.random() < 0.5:
                    found += 1
                    self.check_piece(one, other, place)
        self.assertGreater(found, 20)

    def check_piece(self, one, other, place):
        """A term of the least piece has both left sides, and any name less would lack."""
        try:
            Book(one, other)
        except Exception as error:
            told = error
        if (told.one, told.other, told.place) == (0, 1, place):
            names = list(names_by_words(told.piece))
            wanted = set(names_by_words(one.left)) | {place + at for at in names_by_words(other.left)}
            self.assertEqual(set(names), wanted)
            full = put_in(told.piece, {"_": Term("o")})
            for left, at in ((one.left, ()), (other.left, place)):
                found = names_by_words(full.sub(at))
                self.assertTrue(all(found[spot] == sign for spot, sign in names_by_words(left).items()))


class MakeTest(Case):
    def test_values_that_are_no_rules(self):
        good = rule("o -> o")
        for value in ANY_VALUES:
            self.raises("InvalidRule", [0], Book, value)
            self.raises("InvalidRule", [1], Book, good, value, value)
            self.raises("InvalidRule", [1], Book(good).with_rule, value)
            self.raises("InvalidRule", [1], lambda wrong=value: Book(good) + wrong)
        self.raises("InvalidRule", [0], Book, [good])
        self.raises("InvalidRule", [0], Book().with_rule, "1 o -> o")

    def test_24_rules_and_the_25th(self):
        names = "abcdefghijklmnopqrstuvwxy"
        made = [rule(f"{name}(X) -> X") for name in names]
        book = Book(*made[:24])
        self.assertEqual(len(book), 24)
        self.raises("TooMany", [24], Book, *made)
        self.raises("TooMany", [24], book.with_rule, made[24])
        self.raises("TooMany", [24], lambda: book + made[24])
        self.raises("TooMany", [24], Book.read, "".join(f"{one}\n" for one in made))

    def test_books_of_sides_without_bound(self):
        good, book = rule("one(X) -> X"), BOOKS[2]
        for many in (24, 40, 60, 2000):
            great = shared("p", many, Term("X"))
            self.raises("TooMany", [24], lambda: Book(good, Rule(great, Term("o"))))
            self.raises("TooMany", [24], lambda: Book(good, Rule(Term("o"), shared("p", many, Term("o")))))
            self.raises("TooMany", [24], lambda: book.with_rule(Rule(Term("f", great), Term("X"))))
            self.raises("TooMany", [24], lambda: book + Rule(Term.read("f(X)"), great))
            self.raises("InvalidRule", [1], Book, good, great)
            self.raises("InvalidRule", [2], book.with_rule, great)

    def test_order_of_errors(self):
        same = [rule("one(X) -> X")] * 25
        self.raises("InvalidRule", [25], Book, *same, None)
        self.raises("TooMany", [24], Book, *same)
        self.raises("Overlaps", [0, 1, (), Term.read("one(_)")], Book, *same[:24])
        many = Book(*[rule(f"{name} -> o") for name in "abcdefghijklmnopqrstuvwx"])
        self.raises("InvalidRule", [24], many.with_rule, None)
        self.raises("TooMany", [24], many.with_rule, rule("a -> o"))

    def test_rules_are_a_new_list(self):
        book = BOOKS[3]
        book.rules().append(None)
        book.rules_for(("add", 2)).append(9)
        self.assertEqual(len(book.rules()), 4)
        self.assert_equal(book.rules_for(("add", 2)), [0, 1])
        self.assertEqual([one.due for one in book], [1, 2, 3, 5])
        self.assertEqual(book.rules(), list(book))

    def test_rules_for_signs(self):
        book = BOOKS[3]
        self.assert_equal(book.rules_for(("mul", 2)), [2, 3])
        self.assert_equal(book.rules_for(sign=("mul", 2)), [2, 3])
        for value in ANY_VALUES + [("add", 1), ("add", 3), ["add", 2], ("add", 2, 2), ("add",), ("o", 0), ("add", "2")]:
            self.assert_equal(book.rules_for(value), [])
        self.assert_equal(BOOKS[1].rules_for(("one", True)), [])
        self.assert_equal(BOOKS[1].rules_for(("one", 1)), [0])

    def test_rules_for_signs_between_others(self):
        book = Book(*rules("a(o) -> o", "b -> o", "a(s(X)) -> o", "a(c) -> o"))
        self.assert_equal(book.rules_for(("a", 1)), [0, 2, 3])
        self.assert_equal(book.rules_for(("b", 0)), [1])

    def test_first_ones(self):
        rows = [(book.first_striking(), book.first_copying(), book.is_even()) for book in BOOKS]
        self.assert_equal(rows, [(None, None, True), (None, None, True), (1, 0, False), (2, 3, False),
                                 (None, None, True), (0, 1, False), (1, 0, False)])
        for text in ("one(X) -> p(X,X)", "one(X) -> o"):
            self.assertIs(Book(*rules("a(X) -> X", text)).is_even(), False)
        both = Book(*rules("a(X) -> X", "b(X,Y) -> p(X,X)", "c(X) -> o"))
        self.assertEqual([both.first_striking(), both.first_copying()], [1, 1])

    def test_with_rule(self):
        book = BOOKS[1]
        longer = book.with_rule(rule=rule("two(X) -> X", 8))
        self.assertEqual(longer.text(), "1 one(X) -> X\n8 two(X) -> X\n")
        self.assertEqual(book + rule("two(X) -> X", 8), longer)
        self.assertEqual(len(book), 1)

    def test_equal_rules_in_the_same_order(self):
        a, b = rules("a -> b", "b -> a")
        self.assertEqual(Book(a, b), Book(*rules("a -> b", "b -> a")))
        self.assertIs(Book(a, b) == Book(b, a), False)
        self.assertIs(Book(a) == Book(a, b), False)
        self.assertIs(Book(a) == Book(rule("a -> b", 2)), False)
        self.assertIs(Book() == Book(), True)
        self.assertIs(Book() != Book(a), True)
        for value in ANY_VALUES:
            self.assertIs(Book(a) == value, False)

    def test_always_true(self):
        self.assertIs(bool(Book()), True)
        self.assertIs(bool(BOOKS[1]), True)
        self.assertEqual([len(Book()), len(BOOKS[3])], [0, 4])

    def test_repr(self):
        self.assertEqual([repr(BOOKS[at]) for at in range(3)], ["Book(0 rules)", "Book(1 rules)", "Book(2 rules)"])


class TextTest(Case):
    def test_texts_are_read_back(self):
        for book in BOOKS:
            self.assertEqual(Book.read(book.text()), book)
            self.assertEqual(Book.read(text=str(book)).text(), book.text())
        self.assertEqual(Book().text(), "")
        self.assertEqual(Book.read("").rules(), [])
        text = "0 a -> b\n" + "9" * 30 + " f(X,g(Y)) -> Y\n"
        self.assertEqual(Book.read(text).text(), text)
        self.assert_equal([one.due for one in Book.read(text)], [0, 10 ** 30 - 1])

    def test_values_that_are_no_strings(self):
        for value in ANY_VALUES:
            if not isinstance(value, str):
                self.raises("InvalidText", [0, 0], Book.read, value)

    def test_letters_at_the_ends_of_the_alphabet(self):
        text = "1 z(Z,a(AZ)) -> Z\n9 zz(az,ZZZZ) -> za(ZZZZ,a)\n"
        self.assertEqual(Book.read(text).text(), text)

    def test_wrong_lines(self):
        wrong = {
            "\n": 0, " ": 0, "a": 0, "-": 0, "1": 1, "1\n": 1, "0": 1, "01 a -> b\n": 1, "00": 1, "12": 2, "1 ": 2,
            "1  a -> b\n": 2, "9" * 31 + " a -> b\n": 30, "9" * 30: 30, "9" * 30 + " ": 31,
            "1 X -> X\n": 2, "1 _ -> o\n": 2,
            "1 f(_) -> o\n": 4, "1 f(X) -> _\n": 10, "1 f(X) -> g(_)\n": 12, "1 a": 3, "1 a\n": 3, "1 a ": 4,
            "1 a -": 5, "1 a ->": 6, "1 a -> ": 7, "1 a -> b": 8, "1 a -> \n": 7, "1 a -> b \n": 8, "1 a  -> b\n": 4,
            "1 a - > b\n": 5, "1 a->b\n": 3, "1 a => b\n": 4, "1 a -> b,c\n": 8, "1 f( -> b\n": 4, "1 f(X -> b\n": 5,
            "1 f(X) -> g(X\n": 13, "1 f(X) -> g(X": 13, "1 f(X) -> g(X))\n": 14, "1 abcdefghi -> b\n": 10,
            "1 a -> abcdefghi\n": 15, "1 f(ABCDE) -> b\n": 8, "1 a -> X(o)\n": 8, "-1 a -> b\n": 0, "1a -> b\n": 1,
            "1 f(o,o,o,o,o) -> b\n": 11, "1 f() -> b\n": 4, "1 a -> f()\n": 9,
        }
        for line, at in wrong.items():
            self.raises("InvalidText", [0, at], Book.read, line)
            self.raises("InvalidText", [1, at], Book.read, LINE + line)
            if line.endswith("\n"):
                self.raises("InvalidText", [0, at], Book.read, line + LINE)

    def test_each_beginning_of_a_line_can_stand(self):
        for many in range(1, len(LINE)):
            self.raises("InvalidText", [0, many], Book.read, LINE[:many])
            self.raises("InvalidText", [2, many], Book.read, LINE + LINE + LINE[:many])

    def test_each_wrong_character_is_told(self):
        for at in range(len(LINE)):
            self.raises("InvalidText", [0, at], Book.read, LINE[:at] + "=" + LINE[at + 1:])
            self.raises("InvalidText", [1, at], Book.read, "1 a -> b\n" + LINE[:at] + "=" + LINE[at:] + LINE)

    def test_the_first_wrong_line_is_told(self):
        self.raises("InvalidText", [1, 3], Book.read, LINE + "1 a\n" + "1\n")
        self.raises("InvalidText", [2, 0], Book.read, LINE + LINE + "\n" + "1\n")
        self.raises("InvalidText", [1, 0], Book.read, LINE + "\n")

    def test_lines_are_judged_however_deep(self):
        for levels in (24, 101, 1500):
            deep = "s(" * levels
            closed = deep + "o" + ")" * levels
            self.raises("InvalidText", [0, 2 + 2 * levels], Book.read, f"1 {deep} -> o\n")
            self.raises("InvalidText", [1, 7 + 3 * levels], Book.read, f"{LINE}1 a -> {deep}o{')' * (levels - 1)}\n")
            self.raises("InvalidText", [0, 3 + 3 * levels], Book.read, f"1 {closed})) -> o\n")
            self.raises("TooMany", [24], Book.read, f"1 {closed} -> o\n")
            self.raises("TooMany", [24], Book.read, f"1 a -> {closed}\n")

    def test_forms_of_all_lines_are_ahead_of_what_rules_require(self):
        deep = nested("s", 1500, Term("o")).text()
        for wrong in (f"1 {deep} -> o\n", "1 f(X,X) -> o\n", "1 a -> Y\n", "1 one(X) -> X\n1 one(X) -> X\n"):
            last = len(wrong.split("\n")) - 1
            self.raises("InvalidText", [last, 8], Book.read, wrong + "1 a -> b")
            self.raises("InvalidText", [last, 0], Book.read, wrong + "\n")

    def test_rules_are_ahead_of_books(self):
        overlap = "1 one(X) -> X\n1 one(X) -> X\n"
        self.raises("TwiceHole", ["X"], Book.read, overlap + "1 f(X,X) -> Y\n")
        self.raises("LooseHole", ["Y"], Book.read, overlap + "1 f(X) -> Y\n")
        self.raises("TooMany", [24], Book.read, overlap + f"1 {'s(' * 24}X{')' * 24} -> Y\n")
        self.raises("Overlaps", [0, 1, (), Term.read("one(_)")], Book.read, overlap)
        self.raises("LooseHole", ["Y"], Book.read, "1 a -> Y\n" * 30)
        self.raises("TooMany", [24], Book.read, "1 a -> b\n" * 25)
        self.raises("Overlaps", [0, 1, (), Term("a")], Book.read, "1 a -> b\n" * 24)

    def test_rules_are_checked_in_order(self):
        self.raises("LooseHole", ["Y"], Book.read, "1 a -> Y\n1 f(X,X) -> o\n")
        self.raises("TwiceHole", ["X"], Book.read, "1 f(X,X) -> o\n1 a -> Y\n")


if __name__ == "__main__":
    unittest.main()
