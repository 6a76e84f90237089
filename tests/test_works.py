"""The parts of works, and the rows of single steps for works."""

import itertools
import math
import unittest

from remainways.books import Book
from remainways.layers import key_of, layers, settled
from remainways.remains import alike, joined, within
from remainways.terms import Term
from remainways.ways import Way
from remainways.works import MOST, count_rows, parts, rows_of_work, work_dues, work_steps
from tests.helper import ANY_VALUES, BOOKS, Case, done_by_words, nested, rule_by_words
from tests.piecewords import parts_by_search, rows_by_search
from tests.test_pasts import MILD, grown, mild_ways
from tests.waywords import STRIKING, chain, great_start, layers_by_words, lower, twin_of, upper

SWAP = Book.read("1 swap(pair(X,Y)) -> pair(Y,X)\n")
START = Term.read("swap(swap(pair(swap(pair(o,s(o))),o)))")
WAY = Way.read(SWAP, START, "1;.;1")
BESIDE = Book.read("3 n -> o\n5 a -> b\n7 b -> c\n2 two(X) -> pair(X,X)\n1 one(X) -> X\n")


def steps_beside(many):
    """The way of so many steps beside one another."""
    rows = [Term("f", *[Term("n")] * min(4, many - at)) for at in range(0, many, 4)]
    start = Term("f", *rows)
    return Way(BESIDE, start, [[place for place in start.places() if start.sub(place).word == "n"]])


def small_works():
    """Works with few rows: the triples of a way, its rows and its parts, by search."""
    found = []
    ways = [one for one, in mild_ways(210, 601, 1)] + [joined(one, other) for one, other in mild_ways(60, 607, 2)]
    for way in ways:
        # The search ends in time only if there are few rows; whether their number is right is seen from what it finds.
        if sum(len(lot) for lot in settled(way)) <= 8 and len(list(itertools.islice(rows_of_work(way), 25))) <= 24:
            rows = rows_by_search(way.book, way.start, way.lots())
            found.append((way, rows, parts_by_search(way.book, way.start, rows)))
    return found


SMALL = small_works()


class PartsTest(Case):
    def test_ordinary_parts(self):
        keys = [key_of(part) for part in parts(WAY)]
        self.assert_equal(keys, ["-", "1", "1+1.1.1", "1.1.1", "1+1.1.1;.", "1;."])
        self.assertEqual([part.text() for part in parts(way=WAY, most=6)], keys)
        self.assertEqual({(part.book, part.start.text()) == (SWAP, START.text()) for part in parts(WAY)}, {True})

    def test_works_without_lots(self):
        for way in (Way(SWAP, START), Way(SWAP, START, [[], []])):
            self.assertEqual([part.lots() for part in parts(way, most=1)], [[]])
            self.assert_equal([count_rows(way), work_dues(way), work_steps(way)], [1, (0, 0), (0, 0)])
            self.assert_equal(list(rows_of_work(way)), [()])

    def test_parts_by_search(self):
        self.assertGreater(len(SMALL), 80)
        self.assertGreater(max(len(rows) for way, rows, wanted in SMALL), 20)
        for way, rows, wanted in SMALL:
            found = parts(way)
            self.assert_equal([part.lots() for part in found], wanted)
            self.assertEqual([found[0].lots(), found.count(settled(way))], [[], 1])
            for part in found:
                self.assertIs(within(part, way), True)
                self.assertEqual(settled(part), part)

    def test_the_order_of_parts(self):
        for way, rows, wanted in SMALL:
            order = [(len(part), part.text()) for part in parts(way)]
            self.assertEqual(order, sorted(set(order)))
        # The keys are ordered as strings are.
        keys = [part.text() for part in parts(Way.read(BESIDE, Term.read("f(n,a,n)"), "1+2+3;2"))]
        self.assertEqual(keys, ["-", "1", "1+2", "1+2+3", "1+3", "2", "2+3", "3", "1+2+3;2", "1+2;2", "2+3;2", "2;2"])

    def test_most(self):
        for way, rows, wanted in SMALL:
            many = len(wanted)
            self.assertEqual(len(parts(way, most=many)), many)
            if many > 1:
                self.raises("TooMany", [many - 1], parts, way, most=many - 1)
                self.raises("TooMany", [1], parts, way, most=1)
        self.assertEqual([MOST, len(parts(WAY, most=6)), len(parts(WAY, most=MOST))], [400, 6, 6])
        self.raises("TooMany", [5], parts, WAY, most=5)

    def test_eight_and_nine_steps_beside_one_another(self):
        for many in range(1, 9):
            way = steps_beside(many)
            self.assertEqual([len(parts(way)), count_rows(way)], [2 ** many, math.factorial(many)])
            self.assert_equal([work_dues(way), work_steps(way)], [(3 * many, 3 * many), (many, many)])
        self.assertEqual(len(parts(steps_beside(8), most=256)), 256)
        self.raises("TooMany", [255], parts, steps_beside(8), most=255)
        for many in (9, 12, 16):
            way = steps_beside(many)
            self.raises("TooMany", [400], parts, way)
            self.raises("TooMany", [300], parts, way, most=300)
            for call in (count_rows, work_dues, work_steps):
                self.raises("TooMany", [400], call, way)

    def test_about_four_hundred_parts(self):
        book = Book.read("1 a(X) -> b(X)\n1 b(X) -> c(X)\n1 c(X) -> a(X)\n")
        for one, other, fit in ((19, 19, True), (20, 18, True), (20, 19, False), (399, 0, True), (400, 0, False)):
            lots = [[(number,) for number, many in ((1, one), (2, other)) if at < many] for at in range(one)]
            way = Way(book, Term.read("f(a(o),a(o))"), lots)
            if fit:
                self.assertEqual(len(parts(way)), (one + 1) * (other + 1))
                self.assertEqual(count_rows(way), math.comb(one + other, one))
                self.assert_equal([work_dues(way), work_steps(way)], [(one + other, one + other)] * 2)
            else:
                self.raises("TooMany", [400], parts, way)
                self.raises("TooMany", [400], count_rows, way)

    def test_lists_are_new(self):
        first = parts(WAY)
        first.clear()
        parts(WAY).append(None)
        self.assertEqual(len(parts(WAY)), 6)
        self.assertEqual(WAY.text(), "1;.;1")


class RowsTest(Case):
    def test_ordinary_rows(self):
        self.assert_equal(list(rows_of_work(WAY)), [((1,), (), (1,)), ((1,), (1, 2), ()), ((1, 1, 1), (1,), ())])
        self.assert_equal([count_rows(way=WAY), work_dues(way=WAY), work_steps(way=WAY)], [3, (3, 3), (3, 3)])
        way = Way.read(BESIDE, Term.read("two(a)"), ".;1")
        self.assert_equal(list(rows_of_work(way=way)), [((), (1,))])
        both = Way.read(BESIDE, Term.read("two(a)"), ".;1+2")
        self.assert_equal(list(rows_of_work(both)), [((), (1,), (2,)), ((), (2,), (1,)), ((1,), ())])
        self.assert_equal([count_rows(both), work_dues(both), work_steps(both)], [3, (7, 12), (2, 3)])

    def test_rows_by_search(self):
        for way, rows, wanted in SMALL:
            found = list(rows_of_work(way))
            self.assert_equal(found, rows)
            self.assertEqual([count_rows(way), len(set(rows))], [len(rows), len(rows)])

    def test_dues_and_steps_of_all_rows(self):
        for way, rows, wanted in SMALL:
            dues = []
            for row in rows:
                term, total = way.start, 0
                for place in row:
                    total += way.book.rules()[rule_by_words(way.book, term, place)].due
                    term = done_by_words(way.book, term, [place])
                dues.append(total)
            self.assert_equal(work_dues(way), (min(dues), max(dues)))
            self.assert_equal(work_steps(way), (min(map(len, rows)), max(map(len, rows))))

    def test_a_row_leads_from_part_to_part(self):
        for way, rows, wanted in SMALL[::3]:
            for row in rows:
                steps = [[place] for place in row]
                self.assertIs(alike(Way(way.book, way.start, steps), way), True)
                for many in range(len(row) + 1):
                    self.assertIn(layers_by_words(way.book, way.start, steps[:many]), wanted)

    def test_all_orders_of_eight_steps(self):
        way = steps_beside(8)
        self.assertEqual(list(rows_of_work(way)), list(itertools.permutations(way.lots()[0])))

    def test_rows_without_all_parts(self):
        # The first rows of a work with very many of them are told at once.
        way = steps_beside(16)
        rows = list(itertools.islice(rows_of_work(way), 3))
        self.assert_equal(rows, list(itertools.islice(itertools.permutations(way.lots()[0]), 3)))
        way = Way(MILD[2], chain(7), upper(7, 7).lots())
        row = next(iter(rows_of_work(way)))
        self.assertEqual([row[:2], len(row)], [((), (1,)), 127])


class GreatTest(Case):
    def test_parts_that_are_not_fit(self):
        book, start, way = grown()
        short = Way(book, start, way.lots()[:13])
        self.assertEqual(len(parts(short)), count_by_hand(3))
        self.raises("TooMany", [400], parts, way)
        # One step more at each of four places, and the whole is taken back: 5 * 20 + 2 levels are too many.
        book = Book.read("1 grow(X) -> g(a,a,a,g(a,a,a,g(a,a,a,g(a,a,a,g(a,a,a,X)))))\n1 less(g(a,a,a,X)) -> less(X)\n")
        deep = Term("less", Term("grow", nested("s", 92, Term("grow", Term("o")))))
        lots = [[(1,)]] + [[()]] * 5 + [[(1,) * 93]]
        way = Way(book, deep, lots)
        self.raises("TooGreat", [], parts, way)
        self.raises("TooMany", [11], parts, way, most=11)
        self.raises("TooGreat", [], parts, way, most=14)
        self.assertEqual([count_rows(way), work_steps(way)], [7, (7, 7)])
        self.assertEqual(len(list(rows_of_work(way))), 7)
        self.raises("TooGreat", [], settled, way)

    def test_great_chains(self):
        way = Way(MILD[2], chain(14), [[(1,) * at for at in (3, 7, 11)]])
        self.assertEqual(len(layers(way)), 1)
        rows = list(rows_of_work(way))
        self.assertEqual([len(rows), count_rows(way)], [len(rows), len(rows)])
        self.assertEqual(work_steps(way), (3, 7))


def count_by_hand(many):
    """The parts of so many growths, of which all but the last one are taken back in five steps each."""
    # The part is told by the growths that were done; those ahead of the first missing one may be taken back.
    found = 0
    for done in itertools.product((False, True), repeat=many):
        ahead = done.index(False) if False in done else many
        found += 1 + 5 * min(ahead, many - 1)
    return found


class WrongTest(Case):
    def test_books_that_strike(self):
        for book, index in ((BOOKS[2], 1), (BOOKS[5], 0), (BOOKS[3], 2)):
            way = Way(book, Term("o"))
            for call in (parts, count_rows, work_dues, work_steps):
                self.raises("Strikes", [index], call, way)
            self.raises("Strikes", [index], lambda told=way: next(rows_of_work(told)))
            self.raises("Strikes", [index], parts, way, most=None)
        self.raises("Strikes", [2], parts, Way(STRIKING, great_start(12), [[(1,)], [()]]), most=0)
        self.raises("Strikes", [1], count_rows, lower(9, 9))

    def test_values_that_are_no_numbers(self):
        for value in [value for value in ANY_VALUES if value not in (1, 5) or value is True] + [0, -5, 401, 10 ** 9]:
            self.raises("InvalidNumber", [value], parts, WAY, most=value)
            self.raises("InvalidNumber", [value], parts, steps_beside(9), most=value)
        for value in (6, 7, 399, 400):
            self.assertEqual(len(parts(WAY, most=value)), 6)

    def test_most_is_keyword_only(self):
        with self.assertRaises(TypeError):
            parts(WAY, 6)

    def test_equal_calls_tell_the_same(self):
        for way, rows, wanted in SMALL[:20]:
            twin = twin_of(way)
            self.assertEqual([parts(way), list(rows_of_work(way))], [parts(twin), list(rows_of_work(twin))])
            self.assertEqual(way, twin)


if __name__ == "__main__":
    unittest.main()
