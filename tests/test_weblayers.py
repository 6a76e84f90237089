"""Full layers of webs."""

import random
import unittest

from remainways import rests, weblayers
from remainways.books import Book
from remainways.rests import full_layers
from remainways.terms import Term
from remainways.weblayers import web_layer, web_rest, web_steps
from remainways.webs import Web
from tests.helper import ANY_VALUES, BOOKS, Case, cases, done_by_words, nested, shared, steps_by_words
from tests.test_webs import canonical_by_words, chain_of, random_knots

CASES = cases(160, 2101, most_steps=12)
# What is fanned out is copied, fallen terms are struck, rings come back, and spun terms grow without end.
MIXED = Book.read("1 fan(X) -> f(X,X)\n2 fall(X,f(Y,Z)) -> Y\n0 ring -> gnir\n1 gnir -> ring\n1 spin(X) -> spin(s(X))\n"
                  "3 one(X) -> X\n1 same(X) -> same(X)\n1 last(X,Y) -> g(b,g(Y,b),same(b))\n")
SIGNS = (("o", 0), ("ring", 0), ("one", 1), ("fan", 1), ("s", 1), ("same", 1), ("fall", 2), ("f", 2), ("last", 2))


def mixed_webs(many, seed):
    """Webs of random knots with the signs of MIXED, of terms that are small enough for the words."""
    dice = random.Random(seed)
    found = []
    while len(found) < many:
        knots = random_knots(dice, dice.randint(2, 9))
        told = {sign: dice.choice([other for other in SIGNS if other[1] == sign[1]] or [sign])
                for sign in {(knot[0], len(knot) - 1) for knot in knots}}
        web = Web([(told[knot[0], len(knot) - 1][0], *knot[1:]) for knot in knots])
        if web.size() <= 200:
            found.append(web)
    return found


WEBS = mixed_webs(200, 2102)


def term_of(web):
    """The term of a web, which may have more levels than a fit one."""
    made = []
    for knot in web.knots():
        made.append(Term(knot[0], *[made[at] for at in knot[1:]]))
    return made[-1]


def rest_by_words(book, term, rounds):
    """[28], [30]: the word, the term that was reached last, and the number of full layers done."""
    terms = [term]
    while True:
        lot = steps_by_words(book, terms[-1])
        if not lot:
            return "rest", terms[-1], len(terms) - 1
        if terms[-1] in terms[:-1]:
            return "ring", terms[-1], len(terms) - 1
        if len(terms) > rounds:
            return "open", terms[-1], len(terms) - 1
        terms.append(done_by_words(book, terms[-1], lot))


class LayerTest(Case):
    def assert_layer(self, book, web):
        """One layer by the program is one by the words."""
        knots, term = web.knots(), term_of(web)
        steps = steps_by_words(book, term)
        behind = done_by_words(book, term, steps)
        self.assert_equal(web_steps(book, web), len(steps))
        self.assert_equal(web_steps(book=book, web=web), len(steps))
        for found in (web_layer(book, web), web_layer(book=book, web=web)):
            self.assert_equal(found.knots(), canonical_by_words(behind))
        self.assert_equal(web.knots(), knots)

    def test_by_words(self):
        for book, term, steps in CASES:
            self.assert_layer(book, Web.of(term))

    def test_books_that_copy_and_strike(self):
        for web in WEBS:
            self.assert_layer(MIXED, web)

    def test_ordinary_layers(self):
        rows = (("fan(a)", "f(a,a)", 1), ("fan(fan(a))", "f(f(a,a),f(a,a))", 2), ("f(ring,ring)", "f(gnir,gnir)", 2), ("a", "a", 0),
                ("one(one(one(a)))", "a", 3), ("fall(fan(ring),f(one(b),ring))", "b", 5), ("fall(b,fan(b))", "fall(b,f(b,b))", 1),
                ("last(b,one(a))", "g(b,g(a,b),same(b))", 2), ("one(a,b)", "one(a,b)", 0))
        for text, wanted, steps in rows:
            web = Web.of(Term.read(text))
            self.assertEqual([web_layer(MIXED, web).told().text(), web_steps(MIXED, web)], [wanted, steps])
            self.assertEqual([web_layer(Book(), web), web_steps(Book(), web)], [web, 0])

    def test_a_rule_fits_by_shared_knots(self):
        book = Book.read("1 h(f(X,k),f(k,Y)) -> g(Y,X)\n")
        web = Web.of(Term.read("f(h(f(k,k),f(k,k)),h(f(a,k),f(a,k)))"))
        self.assertEqual([web_steps(book, web), web_layer(book, web).told().text()], [1, "f(g(k,k),h(f(a,k),f(a,k)))"])

    def test_great_webs(self):
        web = Web.of(nested("fan", 99, Term("ring")))
        behind = web_layer(MIXED, web)
        self.assertEqual([web_steps(MIXED, web), len(behind), behind.size(), behind.count_of("gnir")],
                         [100, 100, 2 ** 100 - 1, 2 ** 99])
        self.assertEqual([web_steps(MIXED, behind), web_layer(MIXED, behind)], [2 ** 99, Web.of(shared("f", 99, Term("ring")))])
        self.raises("TooGreat", [], behind.told)
        great = Web.of(shared("f", 200, nested("one", 3, Term("fan", Term("a")))))
        self.assertEqual([web_steps(MIXED, great), web_layer(MIXED, great).size()], [4 * 2 ** 200, 2 ** 202 - 1])

    def test_webs_of_very_many_levels(self):
        for word, wanted in (("fan", 2 ** 2000 - 1), ("one", 1), ("same", 2000), ("s", 2000)):
            web = Web([(knot[0].replace("s", word), *knot[1:]) for knot in chain_of(2000)])
            behind = web_layer(MIXED, web)
            self.assertEqual([behind.size(), web_steps(MIXED, web)], [wanted, 0 if word == "s" else 1999])
            self.assertEqual(len(web), 2000)

    def test_too_many_knots(self):
        # Each knot with a rule makes two of it.
        book = Book.read("1 two(X) -> l(r(X))\n")
        for many in (1000, 1001):
            web = Web([("o",)] + [("two", at) for at in range(many - 1)])
            self.assertEqual([web_steps(book, web), len(web)], [many - 1, many])
            if many == 1000:
                self.assertEqual(len(web_layer(book, web)), 1999)
            else:
                self.raises("TooMany", [2000], web_layer, book, Web([("x",)] + [("two", at) for at in range(many - 1)] + [("l", many - 1)]))
        # Just 2000 behind, and one more.
        self.assertEqual(len(web_layer(book, Web([("o",), ("l", 0)] + [("two", at + 1) for at in range(999)]))), 2000)
        self.raises("TooMany", [2000], web_layer, book, Web([("o",), ("l", 0), ("l", 1)] + [("two", at + 2) for at in range(999)]))
        # What is struck does not count.
        struck = Web([("o",), ("l", 0), ("l", 1)] + [("two", at + 2) for at in range(999)] + [("b",), ("f", 1002, 1002), ("fall", 1001, 1003)])
        both = Book.read("1 two(X) -> l(r(X))\n1 fall(X,f(Y,Z)) -> Y\n")
        self.assertEqual(web_layer(both, struck).told().text(), "b")


class RestTest(Case):
    def assert_rest(self, book, web, rounds):
        """The end of the full layers by the program is that by the words."""
        word, term, count = rest_by_words(book, term_of(web), rounds)
        found = web_rest(book, web, rounds=rounds)
        self.assert_equal([found[0], found[1].knots(), found[2]], [word, canonical_by_words(term), count])
        self.assertIsInstance(found, tuple)
        return word

    def test_by_words(self):
        met = {"rest": 0, "ring": 0, "open": 0}
        for book, term, steps in CASES:
            met[self.assert_rest(book, Web.of(term), len(steps) % 3)] += 1
        for web in WEBS:
            for rounds in (0, 1, 2, 5):
                met[self.assert_rest(MIXED, web, rounds)] += 1
        self.assertGreater(min(met.values()), 40)

    def test_as_full_layers_of_terms(self):
        met = 0
        for book, term, steps in CASES:
            word, way, index = full_layers(book, term)
            if word != "great":
                found = web_rest(book, Web.of(term))
                self.assert_equal([found[0], found[1].told().text(), found[2]], [word, way.end.text(), len(way)])
                met += 1
        self.assertGreater(met, 100)

    def test_each_word(self):
        start = Web.of(Term.read("fan(one(a))"))
        self.assert_equal(web_rest(MIXED, start), ("rest", Web.of(Term.read("f(a,a)")), 1))
        self.assert_equal(web_rest(book=MIXED, web=start, rounds=0), ("open", start, 0))
        self.assert_equal(web_rest(MIXED, Web.of(Term("a")), rounds=0), ("rest", Web.of(Term("a")), 0))
        self.assert_equal(web_rest(MIXED, Web.of(Term("ring"))), ("ring", Web.of(Term("ring")), 2))
        self.assert_equal(web_rest(MIXED, Web.of(Term.read("same(one(ring))"))),
                          ("ring", Web.of(Term.read("same(gnir)")), 3))
        # At the last round a ring comes ahead of open, and one round less is not enough for it.
        self.assert_equal(web_rest(MIXED, Web.of(Term("ring")), rounds=2), ("ring", Web.of(Term("ring")), 2))
        self.assert_equal(web_rest(MIXED, Web.of(Term("ring")), rounds=1), ("open", Web.of(Term("gnir")), 1))

    def test_sixty_rounds_where_nothing_else_is_said(self):
        spun = Web.of(Term.read("spin(a)"))
        self.assertEqual([web_rest(MIXED, spun)[0], web_rest(MIXED, spun)[2]], ["open", 60])
        self.assertEqual([web_rest(MIXED, spun, rounds=200)[2], web_rest(MIXED, spun, rounds=200)[1].size()], [200, 202])
        self.assertEqual([weblayers.ROUNDS, rests.ROUNDS], [60, 60])

    def test_great_webs(self):
        # 60 rounds of doubling: a term with more than 10**18 places has few knots.
        book = Book.read("1 go(X) -> go(f(X,X))\n1 stop(f(X,Y)) -> o\n")
        word, web, count = web_rest(book, Web.of(Term.read("go(a)")))
        self.assertEqual([word, len(web), web.size(), count], ["open", 62, 2 ** 61, 60])
        word, web, count = web_rest(book, web, rounds=200)
        self.assertEqual([word, len(web), web.size(), count], ["open", 262, 2 ** 261, 200])
        self.assertEqual(web_rest(book, Web(web.knots() + [("f", 261, 261), ("stop", 262)]))[:1], ("rest",))

    def test_great_only_beyond_2000_knots(self):
        spun = Web([("o",)] + [("s", at) for at in range(1991)] + [("spin", 1991)])
        self.assertEqual(len(spun), 1993)
        word, web, count = web_rest(MIXED, spun)
        self.assertEqual([word, len(web), count], ["great", 2000, 7])
        self.assertEqual([web_rest(MIXED, spun, rounds=7)[0], web_rest(MIXED, spun, rounds=8)[0]], ["open", "great"])
        self.raises("TooMany", [2000], web_layer, MIXED, web)
        self.assertEqual(web_rest(MIXED, web), ("great", web, 0))
        self.assertEqual(web_rest(MIXED, web, rounds=0), ("open", web, 0))

    def test_wrong_rounds(self):
        spun = Web.of(Term.read("spin(a)"))
        for value in [value for value in ANY_VALUES if value is True or value not in (0, 1, 5)] + [-5, 201, 10 ** 9]:
            for web in (spun, Web.of(Term("a"))):
                self.raises("InvalidNumber", [value], web_rest, MIXED, web, rounds=value)
        with self.assertRaises(TypeError):
            web_rest(MIXED, spun, 60)

    def test_nothing_is_changed(self):
        start = Web.of(Term.read("fan(one(ring))"))
        found = web_rest(MIXED, start)
        found[1].knots().clear()
        self.assertEqual([web_rest(MIXED, start), start.told().text()], [found, "fan(one(ring))"])
        self.assertEqual([len(MIXED), BOOKS[1].text()], [8, "1 one(X) -> X\n"])


if __name__ == "__main__":
    unittest.main()
