"""Terms: construction, texts, places, kinds, common pieces."""

import itertools
import random
import unittest

from remainways.errors import WorkError
from remainways.places import is_place
from remainways.terms import Term
from tests.helper import ANY_VALUES, BOOKS, Case, nested, places_by_words, random_term, shared, sized

TEXTS = (
    "o", "X", "_", "abcdefgh", "WXYZ", "add(s(X),Y)", "f(_,X,o,g(_))", "pair(pair(a,b),pair(c,d))",
    "s(s(s(s(Y))))", "f(o)", "f(o,o)", "f(o,o,o)", "f(o,o,o,o)", "mul(s(s(o)),add(s(o),o))", "g(X,X,Y,X)", "z(Z,zz(ZA),AZ,A)", "az(a,ZZZZ)",
)


def dice_terms(many, seed):
    """Random plain terms."""
    dice = random.Random(seed)
    return [random_term(dice, dice.choice(BOOKS), dice.randint(1, 6)) for _ in range(many)]


def doubled(many):
    """A term with 2 ** (many + 1) - 1 places, put together of shared parts."""
    return shared("p", many, Term("o"))


class MakeTest(Case):
    def test_words(self):
        self.assertEqual(Term("add", Term("o"), Term("X")).word, "add")
        self.assertEqual(Term("X").word, "X")
        self.assertEqual(Term("_").word, "_")
        self.assertEqual(Term(word="o").text(), "o")

    def test_wrong_words(self):
        for value in ANY_VALUES:
            if value not in ("a", "add", "X", "_"):
                self.raises("InvalidName", [value], Term, value)
        for value in ("abcdefghi", "ABCDE", "aB", "__", "a_", "a b", "a\n"):
            self.raises("InvalidName", [value], Term, value)

    def test_holes_and_blanks_have_no_parts(self):
        self.raises("TooMany", [0], Term, "X", Term("o"))
        self.raises("TooMany", [0], Term, "_", Term("o"))

    def test_names_have_at_most_four_parts(self):
        parts = [Term("o")] * 4
        self.assertEqual(Term("f", *parts).text(), "f(o,o,o,o)")
        self.raises("TooMany", [4], Term, "f", *parts, Term("o"))

    def test_parts_are_terms(self):
        for value in ANY_VALUES:
            if not isinstance(value, Term):
                self.raises("InvalidPart", [1], Term, "f", Term("o"), value, Term("o"), value)

    def test_order_of_errors(self):
        self.raises("InvalidName", ["Add"], Term, "Add", 1, 2, 3, 4, 5)
        self.raises("TooMany", [0], Term, "X", 1, 2, 3, 4, 5)
        self.raises("TooMany", [0], Term, "_", None)
        self.raises("TooMany", [4], Term, "f", 1, 2, 3, 4, 5)
        self.raises("InvalidPart", [0], Term, "f", "o", 2)

    def test_parts_are_a_new_list(self):
        term = Term.read("f(a,b)")
        self.assertEqual([part.text() for part in term.parts()], ["a", "b"])
        self.assertIsInstance(term.parts(), list)
        term.parts().append(Term("c"))
        term.parts()[0] = Term("c")
        self.assertEqual(term.text(), "f(a,b)")
        self.assertEqual(Term("o").parts(), [])

    def test_iteration_gives_the_parts(self):
        self.assertEqual([part.text() for part in Term.read("f(a,g(X),_)")], ["a", "g(X)", "_"])
        self.assertEqual(list(Term("X")), [])

    def test_signs(self):
        self.assert_equal(Term.read("add(o,X)").sign(), ("add", 2))
        self.assert_equal(Term("o").sign(), ("o", 0))
        self.assertIsNone(Term("X").sign())
        self.assertIsNone(Term("_").sign())


class TextTest(Case):
    def test_texts_are_read_back(self):
        for text in TEXTS:
            term = Term.read(text)
            self.assertEqual([term.text(), str(term), repr(term)], [text, text, f"Term({text})"])
        for term in dice_terms(60, 1):
            self.assertEqual(Term.read(text=term.text()), term)

    def test_wrong_texts(self):
        wrong = {
            "add(o,)": 6, "": 0, "(": 0, ")": 0, ",": 0, "1": 0, " o": 0, "o ": 1, "o\n": 1, "\n": 0, "o,o": 1,
            "f()": 2, "f(": 2, "f(o": 3, "f(o,": 4, "f(o,o": 5, "f(o))": 4, "f(o)o": 4, "f(o)(o)": 4, "f(,o)": 2,
            "f(o,o,o,o,o)": 9, "f(o,o,o,o": 9, "f(o o)": 3, "f(o, o)": 4, "abcdefghi": 8, "f(abcdefghi)": 10,
            "ABCDE": 4, "f(ABCDE)": 6, "X(o)": 1, "_(o)": 1, "__": 1, "_a": 1, "a_": 1, "aB": 1, "Ab": 1, "XYz": 2,
            "f(X(o))": 3, "f(_,_o)": 5, "a1": 1, "f(g(a,b),h(c,d)": 15, "f(a;b)": 3, "f[a]": 1, "Add(o)": 1,
        }
        for text, at in wrong.items():
            self.raises("InvalidText", [0, at], Term.read, text)

    def test_values_that_are_no_strings(self):
        for value in ANY_VALUES:
            if not isinstance(value, str):
                self.raises("InvalidText", [0, 0], Term.read, value)

    def test_each_short_text_is_judged_by_all_right_texts(self):
        # A beginning of 5 characters that can stand needs at most 3 more to be a right text.
        right = {}
        for size in range(1, 9):
            right[size] = {"a" * size} | ({"X" * size} if size <= 4 else set()) | ({"_"} if size == 1 else set())
            for head, many in itertools.product(range(1, size), range(1, 5)):
                for sizes in itertools.product(range(1, size), repeat=many):
                    if head + 2 + sum(sizes) + many - 1 == size:
                        for parts in itertools.product(*[right[short] for short in sizes]):
                            right[size].add(f"{'a' * head}({','.join(parts)})")
        texts = {text for found in right.values() for text in found}
        begun = {text[:many] for text in texts for many in range(len(text) + 1)}
        for many in range(6):
            for chosen in itertools.product("aX_(),", repeat=many):
                self.judge("".join(chosen), texts, begun)

    def judge(self, text, texts, begun):
        if text in texts:
            self.assertEqual(Term.read(text).text(), text)
        else:
            at = max(many for many in range(len(text) + 1) if text[:many] in begun)
            self.raises("InvalidText", [0, at], Term.read, text)

    def test_texts_are_judged_however_deep(self):
        for levels in (101, 1500, 5000):
            opened = "s(" * levels
            self.raises("InvalidText", [0, 2 * levels], Term.read, opened)
            self.raises("InvalidText", [0, 2 * levels], Term.read, opened + ")")
            self.raises("InvalidText", [0, 3 * levels], Term.read, opened + "o" + ")" * (levels - 1))
            self.raises("InvalidText", [0, 3 * levels + 1], Term.read, opened + "o" + ")" * (levels + 1))
            self.raises("TooGreat", [], Term.read, opened + "o" + ")" * levels)

    def test_bound_of_levels(self):
        term = Term.read("s(" * 99 + "o" + ")" * 99)
        self.assertEqual([term.levels, len(term), term.is_fit()], [100, 100, True])
        self.raises("TooGreat", [], Term.read, "s(" * 100 + "o" + ")" * 100)

    def test_bound_of_places(self):
        self.assertEqual([len(Term.read(sized(2000).text())), sized(2000).is_fit()], [2000, True])
        text = sized(2001).text()
        self.raises("TooGreat", [], Term.read, text)
        self.raises("InvalidText", [0, len(text)], Term.read, text + ")")
        self.raises("InvalidText", [0, len(text) - 1], Term.read, text[:-1])
        self.raises("InvalidText", [0, 0], Term.read, " " + text)


class PlaceTest(Case):
    def test_places_are_ascending(self):
        for term in dice_terms(60, 2) + [Term.read(text) for text in TEXTS]:
            found = term.places()
            self.assertEqual(found, places_by_words(term))
            self.assertEqual(found, sorted(found))
            self.assertEqual(len(term), len(found))
            self.assertEqual(term.levels, max(len(place) for place in found) + 1)
        self.assert_equal(Term.read("f(g(X),_)").places(), [(), (1,), (1, 1), (2,)])

    def test_places_are_a_new_list(self):
        term = Term.read("f(a)")
        term.places().append((9,))
        self.assert_equal(term.places(), [(), (1,)])

    def test_subterms(self):
        term = Term.read("f(g(X,_),o)")
        wanted = {(): "f(g(X,_),o)", (1,): "g(X,_)", (1, 1): "X", (1, 2): "_", (2,): "o"}
        for place, text in wanted.items():
            self.assertEqual(term.sub(place).text(), text)
        self.assertEqual(term.sub(place=(2,)).text(), "o")

    def test_values_that_are_no_places_of_the_term(self):
        term = Term.read("f(g(X,_),o)")
        values = [value for value in ANY_VALUES if not is_place(value)]
        for value in values + [(3,), (4,), (1, 3), (1, 1, 1), (2, 1), (1, 2, 1), [1], [], (True,), (1, True)]:
            self.raises("NoPlace", [value], term.sub, value)
            self.raises("NoPlace", [value], term.with_sub, value, Term("o"))
            self.assertIs(value in term, False)

    def test_places_in_terms(self):
        for term in dice_terms(30, 3):
            for place in itertools.chain(*[itertools.product((1, 2, 3), repeat=many) for many in range(4)]):
                self.assertIs(place in term, place in places_by_words(term))

    def test_other_subterms(self):
        term = Term.read("f(g(X,_),o)")
        self.assertEqual(term.with_sub((1, 2), Term.read("h(Y)")).text(), "f(g(X,h(Y)),o)")
        self.assertEqual(term.with_sub((), Term("Z")).text(), "Z")
        self.assertEqual(term.with_sub(place=(2,), term=Term("_")).text(), "f(g(X,_),_)")
        self.assertEqual(term.text(), "f(g(X,_),o)")
        for one in dice_terms(20, 4):
            for place in one.places():
                changed = one.with_sub(place, Term.read("new(X)"))
                self.assertEqual(changed.sub(place).text(), "new(X)")
                self.assertEqual(changed.with_sub(place, one.sub(place)), one)

    def test_holes_by_their_first_places(self):
        self.assert_equal(Term.read("f(Y,g(X,Y),X,Z)").holes(), ["Y", "X", "Z"])
        self.assert_equal(Term.read("f(g(B,A),C,A)").holes(), ["B", "A", "C"])
        self.assert_equal(Term.read("f(_,o)").holes(), [])
        self.assert_equal(Term("X").holes(), ["X"])
        term = Term.read("f(X)")
        term.holes().append("Y")
        self.assert_equal(term.holes(), ["X"])


class KindTest(Case):
    def test_kinds(self):
        wanted = {"o": (True, True, True), "f(o,g(a))": (True, True, True), "X": (False, True, False),
                  "f(o,X)": (False, True, False), "_": (False, False, True), "f(_,a)": (False, False, True),
                  "f(_,g(X))": (False, False, False), "f(g(h(X)),_)": (False, False, False)}
        for text, kinds in wanted.items():
            term = Term.read(text)
            self.assert_equal((term.is_plain(), term.is_pattern(), term.is_piece()), kinds)

    def test_fit_by_levels(self):
        self.assertIs(nested("s", 99, Term("o")).is_fit(), True)
        self.assertIs(nested("s", 100, Term("o")).is_fit(), False)

    def test_fit_by_places(self):
        for many, fit in ((1, True), (1999, True), (2000, True), (2001, False), (5000, False)):
            self.assertEqual(len(sized(many)), many)
            self.assertIs(sized(many).is_fit(), fit)

    def test_true_whatever_the_size(self):
        for term in (Term("o"), Term("X"), doubled(90), doubled(2000), nested("s", 5000, Term("o"))):
            self.assertIs(bool(term), True)

    def test_equal_texts(self):
        terms = [Term.read(text) for text in TEXTS]
        for one, other in itertools.product(terms, terms):
            self.assertIs(one == other, one.text() == other.text())
            self.assertIs(one != other, one.text() != other.text())
        for text in TEXTS:
            self.assertEqual(Term.read(text), Term.read(text))
        self.assertNotEqual(Term.read("f(a,b)"), Term.read("f(b,a)"))
        self.assertNotEqual(Term.read("f(f(a),a)"), Term.read("f(a,f(a))"))
        self.assertNotEqual(Term.read("f(a,X)"), Term.read("f(a,Y)"))

    def test_nothing_of_another_class_is_equal(self):
        for value in ANY_VALUES:
            if not isinstance(value, Term):
                self.assertIs(Term("a") == value, False)
                self.assertIs(Term("a") != value, True)


class WithoutBoundTest(Case):
    def test_shared_parts(self):
        for many in (90, 1000, 4000):
            term = doubled(many)
            self.assertEqual(term.levels, many + 1)
            self.assertFalse(term.is_fit())
            self.assertTrue(term.is_plain())
            self.assertEqual(term, doubled(many))
            self.assertNotEqual(term, doubled(many - 1))
            self.assertNotEqual(term, term.with_sub((1,) * (many // 2), Term("o")))
            self.assertEqual(term.holes(), [])
            self.assertEqual(term & doubled(many), term)
            self.assertEqual((term & term.with_sub((2,), Term("o"))).sub((2,)).text(), "_")

    def test_sizes(self):
        for many in (1, 2, 5, 24, 25, 2000, 2001, 5461, 100000):
            term = sized(many)
            self.assert_equal([len(term), term.size(), bool(term)], [many, many, True])

    def test_sizes_of_four_arguments_each(self):
        term, many = Term("o"), 1
        for _ in range(9):
            term, many = Term("f", term, term, term, term), 4 * many + 1
            self.assert_equal([len(term), term.size(), bool(term)], [many, many, True])
        self.assertEqual(many, 349525)

    def test_sizes_that_are_told_without_len(self):
        for many in (20, 40, 58):
            self.assert_equal(doubled(many).size(), 2 ** (many + 1) - 1)
        # Beyond that, a size is just great.
        for many in (60, 90, 2000):
            self.assert_equal(doubled(many).size(), 10 ** 18)

    def test_sizes_up_to_a_million(self):
        self.assertEqual(len(doubled(18)), 2 ** 19 - 1)
        self.assertEqual(len(Term("f", doubled(17), doubled(17), doubled(17))), 3 * (2 ** 18 - 1) + 1)

    def test_many_levels(self):
        term = nested("s", 20000, Term("X"))
        self.assertEqual([term.levels, len(term), term.holes()], [20001, 20001, ["X"]])
        self.assertEqual(term.text(), "s(" * 20000 + "X" + ")" * 20000)
        self.assertEqual(term, nested("s", 20000, Term("X")))
        self.assertNotEqual(term, nested("s", 20000, Term("Y")))
        deep = (1,) * 20000
        self.assertIn(deep, term)
        self.assertNotIn(deep + (1,), term)
        self.assertEqual(term.sub(deep).text(), "X")
        self.assertEqual(term.with_sub(deep, Term("o")), nested("s", 20000, Term("o")))
        piece = nested("s", 20000, Term("o")) & nested("s", 20000, Term("t"))
        self.assertEqual(piece, nested("s", 20000, Term("_")))
        self.assertEqual(len(nested("s", 1500, Term("o")).places()), 1501)
        self.assertTrue(repr(term).startswith("Term(s(s("))


class CommonTest(Case):
    def test_common_pieces(self):
        rows = (
            ("f(a,b)", "f(a,c)", "f(a,_)"), ("f(a)", "g(a)", "_"), ("f(a)", "f(a,a)", "_"), ("a", "a", "a"),
            ("_", "a", "_"), ("a", "_", "_"), ("_", "_", "_"), ("f(_,b)", "f(a,_)", "f(_,_)"),
            ("f(g(a,b),h(c))", "f(g(a,c),k(c))", "f(g(a,_),_)"), ("f(f(a))", "f(f(f(a)))", "f(f(_))"),
        )
        for one, other, piece in rows:
            self.assertEqual((Term.read(one) & Term.read(other)).text(), piece)

    def test_common_pieces_by_places(self):
        terms = dice_terms(25, 5)
        for one, other in itertools.product(terms, terms):
            self.assert_common(one, other, one & other)

    def assert_common(self, one, other, piece):
        for place in piece.places():
            same = one.sub(place).sign() == other.sub(place).sign()
            self.assertEqual(piece.sub(place).sign(), one.sub(place).sign() if same else None)
            self.assertEqual(piece.sub(place).word == "_", not same)

    def test_nothing_is_changed(self):
        one, other = Term.read("f(a,g(b))"), Term.read("f(a,g(c))")
        self.assertEqual((one & other).text(), "f(a,g(_))")
        self.assertEqual([one.text(), other.text()], ["f(a,g(b))", "f(a,g(c))"])


class ErrorsTest(Case):
    def test_errors_of_terms_are_work_errors(self):
        for text in ("add(o,)", "s(" * 100 + "o" + ")" * 100):
            with self.assertRaises(WorkError):
                Term.read(text)


if __name__ == "__main__":
    unittest.main()
