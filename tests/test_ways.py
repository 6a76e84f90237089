"""Ways: lots one after another, their terms, their texts."""

import itertools
import random
import re
import unittest

from remainways.books import Book
from remainways.doing import done
from remainways.steps import step_places
from remainways.terms import Term
from remainways.ways import Way
from tests.helper import ANY_VALUES, BOOKS, Case, cases, done_by_words, nested, part_of, sized, steps_by_words
from tests.test_steps import NO_STARTS

BOOK = BOOKS[3]
START = Term.read("mul(s(s(o)),add(s(o),o))")
CASES = cases(80, 53, 6, 40)
PLACE = r"(?:\.|[1-4](?:\.[1-4])*)"
LOT = rf"(?:0|{PLACE}(?:\+{PLACE})*)"
WAY = re.compile(rf"(?:-|{LOT}(?:;{LOT})*)")


def random_lots(dice, book, start, many):
    """Lots that can be done one after another, in any order with places twice, by the definitions."""
    lots, terms = [], [start]
    for _ in range(many):
        lot = part_of(dice, steps_by_words(book, terms[-1]))
        behind = done_by_words(book, terms[-1], lot)
        if len(behind) > 100:
            break
        lots.append(lot + lot[:1])
        terms.append(behind)
    return lots, terms


class MakeTest(Case):
    def test_attributes(self):
        way = Way(BOOK, START, [[(2,), ()], []])
        self.assertEqual([way.book, way.start], [BOOK, START])
        self.assertEqual(way.end.text(), "add(s(add(o,o)),mul(s(o),s(add(o,o))))")
        self.assert_equal(way.lots(), [((), (2,)), ()])
        self.assertEqual(way.terms(), [START, way.end, way.end])
        self.assertEqual(Way(book=BOOK, start=START, lots=[[(2,), ()], []]), way)

    def test_no_lots(self):
        for way in (Way(BOOK, START), Way(BOOK, START, []), Way(BOOK, START, ())):
            self.assert_equal([way.lots(), way.terms(), way.end, len(way)], [[], [START], START, 0])

    def test_lots_by_words(self):
        dice = random.Random(1)
        for book, term, steps in CASES:
            lots, terms = random_lots(dice, book, term, 4)
            way = Way(book, term, lots)
            self.assert_equal(way.lots(), [tuple(sorted(set(lot))) for lot in lots])
            self.assertEqual(way.terms(), terms)
            self.assertEqual(way.end, terms[-1])
            self.assertEqual(Way(book, term, tuple(tuple(lot) for lot in lots)), way)

    def test_lists_are_new_and_copied(self):
        lots = [[(2,), ()], []]
        way = Way(BOOK, START, lots)
        lots[0].append((1,))
        lots.append([()])
        way.lots().append(None)
        way.terms().append(None)
        self.assert_equal(way.lots(), [((), (2,)), ()])
        self.assertEqual([len(way), len(way.terms())], [2, 3])

    def test_what_is_passed_is_not_changed(self):
        lots = [[(2,), (), (2,)], []]
        Way(BOOK, START, lots)
        lot = [(2,), (), (2,)]
        Way(BOOK, START).with_lot(lot)
        self.assertEqual([lots, lot], [[[(2,), (), (2,)], []], [(2,), (), (2,)]])

    def test_values_that_are_no_starts(self):
        for value in NO_STARTS:
            self.raises("InvalidTerm", [], Way, BOOK, value)
            self.raises("InvalidTerm", [], Way, BOOK, value, None)
            self.raises("InvalidTerm", [], Way.read, BOOK, value, "wrong")

    def test_values_that_are_no_lists_of_lots(self):
        for value in ANY_VALUES:
            if not isinstance(value, (list, tuple)):
                self.raises("InvalidLot", [-1], Way, BOOK, START, value)

    def test_values_that_are_no_lots(self):
        for value in ANY_VALUES:
            if not isinstance(value, (list, tuple)):
                self.raises("InvalidLot", [0], Way, BOOK, START, [value, None])
                self.raises("InvalidLot", [2], Way, BOOK, START, ([()], [], value))
                way = Way(BOOK, START, [[()], []])
                self.raises("InvalidLot", [2], way.with_lot, value)
                self.raises("InvalidLot", [2], lambda wrong=value: way + wrong)

    def test_places_that_are_no_steps(self):
        for value in ANY_VALUES:
            if value != () or isinstance(value, list):
                self.raises("NoStep", [0, value], Way, BOOK, START, [[(2,), value, None], None])
                self.raises("NoStep", [1, value], Way, BOOK, START, [[(2,)], (value, None)])
                way = Way(BOOK, START)
                self.raises("NoStep", [0, value], way.with_lot, [(2,), value])
                self.raises("NoStep", [0, value], lambda wrong=value: way + (wrong,))

    def test_each_lot_is_a_lot_of_the_term_reached(self):
        self.assertEqual(len(Way(BOOK, START, [[()], [(2, 2)], [(2,)]])), 3)
        self.raises("NoStep", [1, (2,)], Way, BOOKS[1], Term.read("one(one(o))"), [[()], [(2,)]])
        self.raises("NoStep", [2, ()], Way, BOOKS[1], Term.read("one(one(o))"), [[()], [()], [()]])
        self.raises("NoStep", [1, (1,)], Way, BOOKS[1], Term.read("one(one(o))"), [[(1,)], [(1,)]])

    def test_order_of_errors(self):
        great = Term("two", sized(1500))
        book = BOOKS[2]
        self.raises("InvalidTerm", [], Way, book, Term("X"), "lots")
        self.raises("TooGreat", [], Way, book, great, [[()], None])
        self.raises("TooGreat", [], Way, book, great, [[], [()], [(9,)]])
        self.raises("InvalidLot", [0], Way, book, great, [None, [()]])
        self.raises("NoStep", [0, (1,)], Way, book, great, [[(), (1,)], [()]])
        self.raises("NoStep", [1, (9,)], Way, book, great, [[], [(9,)], None])

    def test_terms_that_are_not_fit(self):
        book = BOOKS[2]
        fits, great = Term("two", sized(999)), Term("two", sized(1000))
        self.assertEqual(len(Way(book, fits, [[()]]).end), 1999)
        self.raises("TooGreat", [], Way, book, great, [[()]])
        self.raises("TooGreat", [], Way(book, great).with_lot, [()])
        self.raises("TooGreat", [], lambda: Way(book, great) + [()])
        self.raises("TooGreat", [], Way.read, book, great, ".")
        up = Book.read("1 up(X) -> s(s(X))\n")
        self.assertEqual(Way(up, nested("up", 49, Term("o")), [[(1,) * at for at in range(49)]]).end.levels, 99)
        self.raises("TooGreat", [], Way, up, nested("up", 50, Term("o")), [[(1,) * at for at in range(50)]])
        deep = nested("two", 90, Term("o"))
        self.raises("TooGreat", [], Way, book, deep, [step_places(book, deep)])
        self.raises("TooGreat", [], Way, book, deep, [[], step_places(book, deep), [()]])

    def test_errors_change_nothing(self):
        way = Way(BOOK, START, [[()]])
        self.raises("NoStep", [1, (9,)], way.with_lot, [(9,)])
        self.assert_equal(way.lots(), [((),)])


class LongerTest(Case):
    def test_with_lot(self):
        dice = random.Random(2)
        for book, term, steps in CASES:
            lots, terms = random_lots(dice, book, term, 4)
            way = Way(book, term)
            for at, lot in enumerate(lots):
                longer = way.with_lot(lot)
                self.assertEqual(longer, Way(book, term, lots[:at + 1]))
                self.assertEqual(longer.terms(), terms[:at + 2])
                self.assertEqual(way + tuple(lot), longer)
                self.assertEqual(len(way), at)
                way = longer
        self.assertEqual(Way(BOOK, START).with_lot(lot=[()]).text(), ".")

    def test_followed_by(self):
        dice = random.Random(3)
        for book, term, steps in CASES:
            lots, terms = random_lots(dice, book, term, 4)
            for at in range(len(lots) + 1):
                whole = Way(book, term, lots[:at]).followed_by(Way(book, terms[at], lots[at:]))
                self.assertEqual(whole, Way(book, term, lots))
                self.assertEqual(whole.terms(), terms)
                self.assertEqual(whole.end, terms[-1])
        way = Way(BOOK, START)
        self.assertEqual(way.followed_by(way=way), way)

    def test_other_starts(self):
        way = Way(BOOK, START, [[()]])
        self.raises("OtherStart", [], way.followed_by, way)
        self.raises("OtherStart", [], way.followed_by, Way(BOOKS[2], way.end))
        longer = BOOK.with_rule(BOOKS[1].rules()[0])
        self.raises("OtherStart", [], way.followed_by, Way(longer, way.end))
        same = Book.read(BOOK.text())
        self.assertEqual(way.followed_by(Way(same, Term.read(way.end.text()), [[]])).text(), ".;0")


class TextTest(Case):
    def test_texts(self):
        way = Way(BOOK, START, [[(2,), ()], [], [(1, 1)]])
        self.assertEqual([way.text(), str(way), repr(way)], [".+2;0;1.1", ".+2;0;1.1", "Way(3 lots)"])
        self.assertEqual([Way(BOOK, START).text(), repr(Way(BOOK, START))], ["-", "Way(0 lots)"])
        self.assertEqual([Way(BOOK, START, [[]]).text(), repr(Way(BOOK, START, [[]]))], ["0", "Way(1 lots)"])

    def test_texts_are_read_back(self):
        dice = random.Random(4)
        for book, term, steps in CASES:
            way = Way(book, term, random_lots(dice, book, term, 4)[0])
            self.assertEqual(Way.read(book, term, way.text()), way)
            self.assertEqual(Way.read(book=book, start=term, text=str(way)).terms(), way.terms())

    def test_places_in_any_order_and_twice(self):
        for text in (".+2", "2+.", "2+.+2", "2+2+.+.+."):
            self.assertEqual(Way.read(BOOK, START, text).text(), ".+2")

    def test_wrong_texts(self):
        wrong = {
            "": 0, "5": 0, "+": 0, ";": 0, " ": 0, "--": 1, "-;": 1, "-.": 1, ".-": 1, "0;": 2, "0+": 1, "00": 1,
            "0.": 1, ".1": 1, "..": 1, "1.": 2, "1..": 2, "1.5": 2, "12": 1, "1+": 2, "1+0": 2, "1+5": 2, ".+": 2,
            ".;": 2, ".;-": 2, ".;;": 2, ".+;": 2, ".+2;0;1.1 ": 9, ".\n": 1, "2 + .": 1, "0;-": 2, "1.2.": 4,
            "1;2+": 4, "a": 0, ".+2;0;1.1;": 10,
        }
        for text, at in wrong.items():
            self.raises("InvalidText", [0, at], Way.read, BOOK, START, text)

    def test_values_that_are_no_strings(self):
        for value in ANY_VALUES:
            if not isinstance(value, str):
                self.raises("InvalidText", [0, 0], Way.read, BOOK, START, value)

    def test_each_short_text_is_judged_by_all_right_texts(self):
        ends = ["".join(chosen) for many in range(2) for chosen in itertools.product("0-.1", repeat=many)]
        for many in range(5):
            for chosen in itertools.product("0-.15+;", repeat=many):
                text = "".join(chosen)
                if not WAY.fullmatch(text):
                    at = max(short for short in range(many + 1)
                             if any(WAY.fullmatch(text[:short] + end) for end in ends))
                    self.raises("InvalidText", [0, at], Way.read, BOOK, START, text)

    def test_each_right_short_text_is_read(self):
        # A book with a step place everywhere, whatever was done.
        book, start = Book.read("1 all(X) -> all(X)\n"), nested("all", 5, Term("o"))
        for many in range(1, 6):
            for chosen in itertools.product("0-.1+;", repeat=many):
                text = "".join(chosen)
                if WAY.fullmatch(text):
                    way = Way.read(book, start, text)
                    rows = [] if text == "-" else text.split(";")
                    self.assertEqual(len(way), len(rows))
                    for lot, row in zip(way, rows):
                        texts = {".".join(map(str, place)) or "." for place in lot}
                        self.assertEqual(texts, set(row.split("+")) - {"0"})

    def test_the_first_wrong_place_as_it_stands_in_the_text(self):
        self.raises("NoStep", [0, (3,)], Way.read, BOOK, START, ".+3+1")
        self.raises("NoStep", [0, (1, 1)], Way.read, BOOK, START, "2+1.1+.+1")
        self.raises("NoStep", [1, (4,)], Way.read, BOOK, START, ".;4+3")

    def test_order_of_errors(self):
        great = Term("two", sized(1500))
        self.raises("InvalidTerm", [], Way.read, BOOKS[2], sized(2001), "wrong")
        self.raises("InvalidText", [0, 4], Way.read, BOOKS[2], great, ".;1.")
        self.raises("InvalidText", [0, 2], Way.read, BOOKS[2], great, "1;")
        self.raises("NoStep", [0, (1,)], Way.read, BOOKS[2], great, "1+.;.")
        self.raises("TooGreat", [], Way.read, BOOKS[2], great, ".;1")


class KindTest(Case):
    def test_iteration_gives_the_lots(self):
        way = Way(BOOK, START, [[(2,), ()], [], [(1, 1)]])
        self.assert_equal(list(way), [((), (2,)), (), ((1, 1),)])
        self.assertEqual(len(way), 3)

    def test_always_true(self):
        self.assertIs(bool(Way(BOOK, START)), True)
        self.assertIs(bool(Way(BOOK, START, [[]])), True)

    def test_equal_books_starts_and_lots(self):
        way = Way(BOOK, START, [[(2,), ()]])
        self.assertEqual(way, Way(Book.read(BOOK.text()), Term.read(START.text()), ([(), (2,)],)))
        longer = BOOK.with_rule(BOOKS[1].rules()[0])
        others = (Way(BOOK, START), Way(BOOK, START, [[()]]), Way(BOOK, START, [[(), (2,)], []]),
                  Way(longer, START, [[(), (2,)]]))
        for other in others:
            self.assertIs(way == other, False)
            self.assertIs(way != other, True)
        self.assertNotEqual(Way(BOOK, START), Way(BOOK, way.end))
        self.assertNotEqual(Way(BOOK, START, [[]]), Way(BOOK, START))

    def test_nothing_of_another_class_is_equal(self):
        for value in ANY_VALUES + ["-"]:
            self.assertIs(Way(BOOK, START) == value, False)

    def test_terms_are_those_that_doing_gives(self):
        way = Way.read(BOOK, START, ".+2;.+1.1+2")
        for term, lot, behind in zip(way.terms(), way.lots(), way.terms()[1:]):
            self.assertEqual(done(BOOK, term, lot), behind)


if __name__ == "__main__":
    unittest.main()
