"""Orders of events: their number, the order with a number and back, and the rows that follow them."""

import math
import unittest

from remainways.eventorders import count_orders, number_of, order_at, row_of
from remainways.events import causes, count_events
from remainways.remains import alike
from remainways.terms import Term
from remainways.ways import Way
from remainways.works import count_rows, parts, rows_of_work
from tests.eventwords import (BOTH, COPIES, EVENS, STRIKES, beside, even_ways, one_behind_another,
                              orders_by_words)
from tests.helper import ANY_VALUES, Case, done_by_words
from tests.test_works import SWAP, WAY

WAYS = even_ways(120, 2501, most=6)
ROWS = [(way, orders_by_words([causes(way, event) for event in range(count_events(way))])) for way in WAYS]
EMPTY = Way(SWAP, WAY.start, [[], []])


def chains_beside(many, length):
    """So many chains of so many steps that have nothing to do with one another, done in turns."""
    start = Term("f", *[Term("ring")] * many)
    book = EVENS[0].read("1 ring -> ring\n")
    return Way(book, start, [[(number,) for number in range(1, many + 1)]] * length)


class CountTest(Case):
    def test_ordinary_ways(self):
        self.assert_equal([count_orders(WAY), count_orders(way=WAY), count_orders(EMPTY)], [3, 3, 1])
        self.assert_equal([count_orders(beside(4)), count_orders(one_behind_another(9))], [24, 1])
        for way, orders in ROWS:
            self.assert_equal(count_orders(way), len(orders))
        self.assertGreater(max(len(orders) for way, orders in ROWS), 100)

    def test_orders_are_rows_of_the_work(self):
        for way, orders in ROWS:
            self.assertEqual(count_orders(way), count_rows(way))

    def test_great_numbers(self):
        self.assert_equal(count_orders(chains_beside(2, 19)), math.comb(38, 19))
        self.assert_equal(count_orders(chains_beside(3, 6)), math.factorial(18) // math.factorial(6) ** 3)
        self.assert_equal(count_orders(chains_beside(4, 3)), math.factorial(12) // 6 ** 4)
        self.assert_equal(count_orders(beside(8)), math.factorial(8))

    def test_too_many_parts(self):
        calls = (count_orders, lambda way: order_at(way, 0), lambda way: number_of(way, list(range(count_events(way)))))
        # Just 400 parts: 400 in a row, 20 times 20 of two rows.
        for way in (one_behind_another(399), chains_beside(2, 19), beside(8), chains_beside(3, 6)):
            for call in calls:
                call(way)
        self.assertEqual([len(parts(chains_beside(2, 19))), len(parts(beside(8)))], [400, 256])
        uneven = chains_beside(2, 19).with_lot([(1,)])
        for way in (one_behind_another(400), uneven, beside(9), beside(400), chains_beside(3, 7)):
            for call in calls:
                self.raises("TooMany", [400], call, way)
            # Ahead of what the number or the order is.
            for value in (-1, None, 10 ** 40, [0, 0]):
                self.raises("TooMany", [400], order_at, way, value)
                self.raises("TooMany", [400], number_of, way, value)


class NumbersTest(Case):
    def test_ordinary_numbers(self):
        self.assert_equal([order_at(WAY, number) for number in range(3)], [(0, 1, 2), (0, 2, 1), (2, 0, 1)])
        self.assert_equal([number_of(WAY, order) for order in ((0, 1, 2), [0, 2, 1], (2, 0, 1))], [0, 1, 2])
        self.assert_equal([order_at(EMPTY, 0), number_of(EMPTY, ()), number_of(EMPTY, [])], [(), 0, 0])
        self.assert_equal([order_at(way=WAY, number=1), number_of(way=WAY, order=(0, 2, 1))], [(0, 2, 1), 1])

    def test_all_orders_ascending(self):
        for way, orders in ROWS:
            for number in range(0, len(orders), 1 + len(orders) // 30):
                self.assert_equal(order_at(way, number), orders[number])
                self.assert_equal(number_of(way, orders[number]), number)
            self.assert_equal(order_at(way, len(orders) - 1), orders[-1])

    def test_numbers_of_any_size(self):
        way = chains_beside(2, 19)
        many = math.comb(38, 19)
        for number in (0, 1, many // 3, many // 2, many - 2, many - 1):
            order = order_at(way, number)
            self.assertEqual([number_of(way, order), sorted(order)], [number, list(range(38))])
        # The lots have their places in descending order, so the second chain has the even events.
        self.assert_equal(order_at(way, many - 1), tuple(range(1, 38, 2)) + tuple(range(0, 38, 2)))
        self.assert_equal(order_at(way, 0), tuple(range(38)))
        self.raises("NoOrder", [many], order_at, way, many)

    def test_values_that_are_no_numbers_of_orders(self):
        for value in [value for value in ANY_VALUES if value is True or value is False or value not in (0, 1)] + [
                3, -1, -3, 2 ** 200, -2 ** 200, [0], "0", (0, 1, 2), WAY, 1.0]:
            self.raises("NoOrder", [value], order_at, WAY, value)
        for value in (1, -1, None):
            self.raises("NoOrder", [value], order_at, EMPTY, value)


class RowsTest(Case):
    def test_ordinary_rows(self):
        rows = (((0, 1, 2), "1;.;1"), ([0, 2, 1], "1;1.2;."), ((2, 0, 1), "1.1.1;1;."))
        for order, text in rows:
            self.assertEqual([row_of(WAY, order).text(), row_of(way=WAY, order=order).end], [text, WAY.end])
        self.assertEqual(row_of(EMPTY, []), Way(SWAP, WAY.start))

    def test_rows_of_all_orders(self):
        for way, orders in ROWS:
            if len(orders) <= 40:
                rows = [row_of(way, order) for order in orders]
                self.assertEqual(len({row.text() for row in rows}), len(orders))
                told = sorted(tuple(lot[0] for lot in row.lots()) for row in rows)
                self.assertEqual(told, list(rows_of_work(way)))
                for row in rows[:4]:
                    self.assertEqual([row.start, row.end, alike(row, way)], [way.start, way.end, True])

    def test_never_too_many_parts(self):
        for way in (beside(9), beside(400), one_behind_another(400), chains_beside(4, 40)):
            many = count_events(way)
            found = row_of(way, tuple(range(many)))
            self.assertEqual([len(found), found.end, found.lots()[:1]], [many, way.end, [way.lots()[0][-1:]]])
        way = beside(400)
        self.assertEqual(row_of(way, list(range(399, -1, -1))).lots(), [(place,) for place in way.lots()[0]])
        self.raises("NotRow", [400], row_of, way, list(range(400)) + [0])
        self.raises("NotRow", [399], row_of, way, list(range(399)))
        self.raises("NotRow", [1], row_of, one_behind_another(400), [0, 2])

    def test_terms_that_are_not_fit(self):
        book = EVENS[0].read("1 lift(X) -> " + "s(" * 22 + "X" + ")" * 22 + "\n1 drop(" + "s(" * 22 + "X" + ")" * 22 + ") -> X\n")
        start = Term.read("lift(" * 4 + "drop(" + "s(" * 22 + "o" + ")" * 27)
        way = Way(book, start, [[(1,) * 4], [()], [(1,) * 22], [(1,) * 44], [(1,) * 66]])
        self.assertEqual([row_of(way, (0, 1, 2, 3, 4)).end.levels, count_orders(way)], [89, 120])
        self.raises("TooGreat", [], row_of, way, (1, 2, 3, 4, 0))
        self.assertEqual(row_of(way, (1, 2, 3, 0, 4)).end, way.end)


class WrongTest(Case):
    def calls(self, way):
        """The two functions that are given an order; the second one has no bound."""
        return (lambda order: number_of(way, order), lambda order: row_of(way, order))

    def test_values_that_are_no_lists(self):
        for value in ANY_VALUES + ["012", {0: 1}, 3, WAY]:
            if not isinstance(value, (list, tuple)):
                for way in (WAY, EMPTY):
                    for call in self.calls(way):
                        self.raises("NotRow", [0], call, value)

    def test_items_that_cannot_stand(self):
        for call in self.calls(WAY):
            for value in ANY_VALUES + [3, -1, 10 ** 30, [0], (0,), 2.0, WAY]:
                if value is True or value is False or value not in (0, 1, 2):
                    self.raises("NotRow", [1], call, (0, value, 1))
                    self.raises("NotRow", [0], call, [value, 0, 1])
                    self.raises("NotRow", [3], call, [2, 0, 1, value])
            for order, at in (((1, 0, 2), 0), ((2, 1, 0), 1), ((0, 0, 1), 1), ((0, 1, 1), 2), ((0, 1, 2, 0), 3), ((0, 2, 2), 2),
                              ((0, 1), 2), ((0,), 1), ((), 0), ([2, 0], 2), ((0, 1, 2, 3), 3), ((2, 0, 1, 2, 0, 1), 3)):
                self.raises("NotRow", [at], call, order)
        for call in self.calls(EMPTY):
            self.raises("NotRow", [0], call, (0,))

    def test_bent_orders(self):
        met = 0
        for way, orders in ROWS:
            known = {order[:many] for order in orders for many in range(len(order) + 1)}
            for order in orders[:3] + orders[-3:]:
                for at in range(len(order)):
                    for value in range(-1, len(order) + 1):
                        bent = order[:at] + (value,) + order[at + 1:]
                        if bent not in known:
                            wrong = min(many for many in range(len(bent) + 1) if bent[:many] not in known) - 1
                            for call in self.calls(way):
                                self.raises("NotRow", [wrong], call, bent)
                            met += 1
        self.assertGreater(met, 1000)

    def test_books_that_are_not_even(self):
        start = Term.read("f(fst(pair(two(o),o)),o)")
        for call, told in ((count_orders, ()), (order_at, (-1,)), (number_of, (None,)), (row_of, (None,))):
            self.raises("Strikes", [1], call, Way(BOTH, start), *told)
            self.raises("Strikes", [2], call, Way(STRIKES, start), *told)
            self.raises("Copies", [1], call, Way(COPIES, start), *told)

    def test_nothing_is_changed(self):
        order = [2, 0, 1]
        row_of(WAY, order).lots().clear()
        self.assert_equal([number_of(WAY, order), order, row_of(WAY, order).text(), WAY.text()], [2, [2, 0, 1], "1.1.1;1;.", "1;.;1"])
        self.assertEqual(done_by_words(SWAP, WAY.start, [(1,)]), WAY.terms()[1])


if __name__ == "__main__":
    unittest.main()
