"""Webs: canonical knots, sizes, subterms, and what is told."""

import random
import unittest

from remainways.errors import TooGreat
from remainways.terms import Term
from remainways.webs import Web
from tests.helper import ANY_VALUES, Case, nested, places_by_words, shared, sized

SIGNS = (("a", 0), ("b", 0), ("a", 1), ("s", 1), ("f", 2), ("g", 3), ("h", 4))


def told_at(knots, at):
    """The term that a knot of a list tells."""
    return Term(knots[at][0], *[told_at(knots, inner) for inner in knots[at][1:]])


def canonical_by_words(term):
    """[30]: each subterm once, behind its arguments from left to right and all that is within them."""
    found = []

    def put_in(part):
        if part not in found:
            for inner in part.parts():
                put_in(inner)
            found.append(part)

    put_in(term)
    return [(part.word, *[found.index(inner) for inner in part.parts()]) for part in found]


def random_knots(dice, many):
    """A list of knots, some of them equal, some of them not needed by the top."""
    found = []
    while len(found) < many:
        name, count = dice.choice(SIGNS if found else SIGNS[:2])
        found.append((name, *[dice.randrange(max(0, len(found) - 6), len(found)) for _ in range(count)]))
    return found


def chain_of(many):
    """The knots of a term of so many levels."""
    return [("o",)] + [("s", at) for at in range(many - 1)]


DRAWN = [random_knots(random.Random(seed), 1 + seed % 14) for seed in range(160)]


class CanonicalTest(Case):
    def test_the_example(self):
        web = Web.of(Term.read("f(a,g(a))"))
        self.assert_equal(web.knots(), [("a",), ("g", 0), ("f", 0, 1)])
        self.assertEqual([repr(web), len(web), web.size(), web.told().text()], ["Web(3 knots)", 3, 4, "f(a,g(a))"])
        self.assertEqual([repr(Web([("o",)])), len(Web([("o",)]))], ["Web(1 knots)", 1])

    def test_equal_rows_and_rows_that_are_not_needed(self):
        web = Web([("a",), ("b",), ("a",), ("g", 2), ("g", 0), ("f", 0, 3, 4)])
        self.assert_equal(web.knots(), [("a",), ("g", 0), ("f", 0, 1, 1)])
        # The order is that of the arguments of the top, not that of the rows.
        web = Web((("a",), ("b",), ("g", 0), ("g", 1), ("f", 3, 2, 1)))
        self.assert_equal(web.knots(), [("b",), ("g", 0), ("a",), ("g", 2), ("f", 1, 3, 0)])
        # What stands within an earlier argument is there already.
        self.assert_equal(Web.of(Term.read("f(g(b),b,g(a),a)")).knots(),
                          [("b",), ("g", 0), ("a",), ("g", 2), ("f", 1, 0, 3, 2)])
        self.assert_equal(Web([("a",), ("a",), ("s", 0), ("s", 1), ("b",)]).knots(), [("b",)])

    def test_by_words(self):
        for knots in DRAWN:
            term = told_at(knots, len(knots) - 1)
            wanted = canonical_by_words(term)
            for web in (Web(knots), Web(tuple(knots)), Web.of(term), Web(wanted), Web(knots=knots), Web.of(term=term)):
                self.assert_equal(web.knots(), wanted)
                self.assertEqual([len(web), bool(web)], [len(wanted), True])

    def test_equal_webs_tell_the_same_term(self):
        webs = [Web(knots) for knots in DRAWN]
        terms = [told_at(knots, len(knots) - 1) for knots in DRAWN]
        same = 0
        for one, term in zip(webs, terms):
            for other, beside in zip(webs, terms):
                self.assertIs(one == other, term == beside)
                self.assertIs(one != other, term != beside)
                same += term == beside
        self.assertGreater(same, len(webs) + 20)
        for value in ANY_VALUES + [[("o",)], (("o",),)]:
            self.assertIs(Web([("o",)]) == value, False)

    def test_one_name_with_two_numbers_of_arguments(self):
        self.assertNotEqual(Web([("a",), ("a", 0)]), Web([("a",)]))
        self.assertEqual(Web([("a",), ("a", 0)]).told().text(), "a(a)")


class TermsTest(Case):
    def test_sizes_names_and_terms(self):
        for knots in DRAWN:
            web, term = Web(knots), told_at(knots, len(knots) - 1)
            words = [term.sub(place).word for place in places_by_words(term)]
            self.assertEqual(web.size(), len(words))
            for name in ("a", "b", "s", "f", "g", "h", "x"):
                self.assertEqual([web.count_of(name), web.count_of(name=name)], [words.count(name)] * 2)
            if term.is_fit():
                self.assertEqual(web.told(), term)
                self.assertEqual(Web.of(web.told()), web)
            else:
                self.raises("TooGreat", [], web.told)

    def test_count_of_any_value(self):
        web = Web.of(Term.read("f(a,a(b),g(a,a))"))
        self.assert_equal([web.count_of("a"), web.count_of("b"), web.count_of("f")], [4, 1, 1])
        for value in ANY_VALUES + ["A", "f(a)", ("a",), ("a", 0), "abcdefghi", b"a", web]:
            if value != "a" or not isinstance(value, str):
                self.assert_equal(web.count_of(value), 0)

    def test_subterms(self):
        for knots in DRAWN[:60]:
            web, term = Web(knots), told_at(knots, len(knots) - 1)
            places = places_by_words(term)
            for place in places[:40]:
                self.assert_equal(web.sub(place).knots(), canonical_by_words(term.sub(place)))
                for wrong in (place + (number,) for number in (1, 2, 3, 4, 5, 0)):
                    if wrong not in places:
                        self.raises("NoPlace", [wrong], web.sub, wrong)
            self.assertEqual(web.sub(place=()), web)

    def test_values_that_are_no_places(self):
        web = Web.of(Term.read("f(a,g(a))"))
        for value in ANY_VALUES + [(3,), (1, 1), (2, 2), (2, 1, 1), (-1,), (2, -1), "2.1", [2], (2.0,), (False,)]:
            if not (isinstance(value, tuple) and value in ((), (1,))) or repr(value) == "(True,)":
                self.raises("NoPlace", [value], web.sub, value)

    def test_great_webs(self):
        web = Web.of(shared("f", 100, Term("o")))
        self.assertEqual([len(web), web.size(), web.count_of("o"), web.count_of("f")],
                         [101, 2 ** 101 - 1, 2 ** 100, 2 ** 100 - 1])
        self.assertEqual([web.sub((1, 2) * 50).told().text(), len(web.sub((2,) * 97)), web.sub((1,) * 97).size()],
                         ["o", 4, 15])
        self.raises("NoPlace", [(1,) * 101], web.sub, (1,) * 101)
        self.raises("TooGreat", [], web.told)
        self.assertGreater(web.size(), 10 ** 30)
        wide = Web([("o",)] + [("h", at, at, at, at) for at in range(1999)])
        self.assertEqual([len(wide), wide.size()], [2000, (4 ** 2000 - 1) // 3])

    def test_webs_of_very_many_levels(self):
        web = Web(chain_of(2000))
        self.assertEqual([len(web), web.size(), web.count_of("s"), web.knots()], [2000, 2000, 1999, chain_of(2000)])
        self.assertEqual([web.sub((1,) * 1999).told().text(), len(web.sub((1,) * 1000))], ["o", 1000])
        self.raises("NoPlace", [(1,) * 2000], web.sub, (1,) * 2000)
        self.assertEqual([web == Web.of(nested("s", 1999, Term("o"))), web == Web(chain_of(1999))], [True, False])
        # Each level has its two arguments in the other order.
        ladder = [("o",), ("a",)] + [("f", at + at % 2, at + 1 - at % 2) for at in range(1998)]
        self.assertEqual(len(Web(ladder)), 2000)
        self.raises("TooGreat", [], Web(ladder).told)

    def test_just_fit_and_one_more(self):
        for many in (2000, 2001):
            web = Web.of(sized(many))
            self.assertEqual(web.size(), many)
            if many == 2000:
                self.assertEqual(web.told(), sized(many))
            else:
                self.raises("TooGreat", [], web.told)
        for levels in (100, 101):
            web = Web(chain_of(levels))
            if levels == 100:
                self.assertEqual(web.told(), nested("s", 99, Term("o")))
            else:
                self.raises("TooGreat", [], web.told)
        with self.assertRaises(TooGreat):
            Web.of(nested("s", 100, sized(1900))).told()


class ErrorsTest(Case):
    def test_values_that_are_no_lists(self):
        for value in ANY_VALUES + ["abc", {"a": 1}, Web([("o",)])]:
            if not isinstance(value, (list, tuple)):
                self.raises("InvalidKnot", [-1], Web, value)
        for value in ([], ()):
            self.raises("InvalidKnot", [0], Web, value)

    def test_rows_that_are_no_knots(self):
        wrong = [None, True, 0, "a", ["a"], (), (1,), ("A",), ("_",), ("",), ("abcdefghi",), (("a",),), ("a", -1), ("a", True),
                 ("a", False), ("a", "0"), ("a", None), ("a", (0,)), ("a", 0, 0, 0, 0, 0), ("a", 5), ("a", 10 ** 30), Term("a"),
                 ("a", [0]), (["a"],), ("a", 0, 1), ("a", Term("a"))]
        for row in wrong:
            for tail in ([], [("f", 0)], [None], ["b"]):
                self.raises("InvalidKnot", [1], Web, [("a",), row] + tail)
                self.raises("InvalidKnot", [1], Web, (("a",), row, *tail))
        for row in (("a", 0), ("a", 1)):
            self.raises("InvalidKnot", [0], Web, [row, ("a",)])
        # A knot needs those ahead alone, and not itself.
        self.raises("InvalidKnot", [2], Web, [("a",), ("f", 0), ("f", 2)])
        self.raises("InvalidKnot", [2], Web, [("a",), ("f", 0), ("f", 3), ("a",)])
        self.assertEqual(len(Web([("a",), ("f", 0, 0, 0, 0)])), 2)
        self.assertEqual(len(Web([("abcdefgh",)])), 1)

    def test_too_many_rows(self):
        rows = [("o",)] * 2000
        self.assertEqual(len(Web(rows)), 1)
        self.raises("TooMany", [2000], Web, rows + [("o",)])
        self.raises("TooMany", [2000], Web, tuple(rows) + ("o",))
        # Ahead of what the rows are.
        self.raises("TooMany", [2000], Web, [None] * 2001)
        self.raises("InvalidKnot", [0], Web, [None] * 2000)
        self.raises("TooMany", [2000], Web, chain_of(2001))
        self.assertEqual(len(Web(chain_of(2000))), 2000)

    def test_terms_that_are_not_plain(self):
        values = ANY_VALUES + [Term("X"), Term("_"), Term.read("f(X)"), Term.read("f(a,_)"), [("o",)], Web([("o",)])]
        for value in values:
            if not isinstance(value, Term) or not value.is_plain():
                self.raises("InvalidTerm", [], Web.of, value)
        self.raises("InvalidTerm", [], Web.of, nested("s", 2000, Term("X")))

    def test_terms_of_too_many_different_subterms(self):
        self.assertEqual(len(Web.of(nested("s", 1999, Term("o")))), 2000)
        self.raises("TooMany", [2000], Web.of, nested("s", 2000, Term("o")))
        self.raises("TooMany", [2000], Web.of, nested("s", 10 ** 5, Term("o")))
        half = Term("f", nested("s", 999, Term("o")), nested("t", 999, Term("o")))
        self.assertEqual(len(Web.of(half)), 2000)
        self.raises("TooMany", [2000], Web.of, Term("g", half))
        # Equal subterms count once, however often they were put together.
        again = Term("f", *[nested("s", 1000, Term("o")) for _ in range(4)])
        self.assertEqual(len(Web.of(again)), 1002)

    def test_what_is_passed_and_told_may_be_changed(self):
        knots = [("a",), ("g", 0), ("f", 0, 1)]
        web = Web(knots)
        knots[0] = ("b",)
        del knots[1:]
        web.knots().append(("c",))
        web.knots().clear()
        self.assert_equal(web.knots(), [("a",), ("g", 0), ("f", 0, 1)])
        self.assertEqual([web.told().text(), web.size(), web == Web.of(web.told())], ["f(a,g(a))", 4, True])
        web.sub((2,))
        self.assertEqual(len(web), 3)


if __name__ == "__main__":
    unittest.main()
