"""Places, their order, and the texts of places and lots."""

import itertools
import unittest

from remainways.places import TOP, is_beneath, is_place, lot_text, place_text, read_place
from tests.helper import ANY_VALUES, Case

SOME = [tuple(place) for many in range(4) for place in itertools.product((1, 2, 4), repeat=many)]


class PlacesTest(Case):
    def test_top(self):
        self.assert_equal(TOP, ())

    def test_places(self):
        for place in SOME + [(3,) * 200]:
            self.assertIs(is_place(place), True)
        for value in ([], [1], (0,), (5,), (1, 0), (True,), (1, True), ("1",), ((1,),), (1, None), "1", 1):
            self.assertIs(is_place(value), False, value)

    def test_any_values_that_are_no_places(self):
        self.assert_equal([value for value in ANY_VALUES if is_place(value)], [(), (1,)])

    def test_beneath(self):
        for one in SOME:
            for other in SOME:
                wanted = len(one) > len(other) and list(one)[:len(other)] == list(other)
                self.assertIs(is_beneath(one, other), wanted)
        self.assertIs(is_beneath((), ()), False)
        self.assertIs(is_beneath(place=(2, 1), other=(2,)), True)

    def test_texts(self):
        self.assertEqual(place_text(()), ".")
        self.assertEqual(place_text((2,)), "2")
        self.assertEqual(place_text((1, 2, 4)), "1.2.4")
        self.assertEqual(place_text(place=(3, 3)), "3.3")

    def test_texts_are_read_back(self):
        for place in SOME + [(4,) * 500]:
            self.assert_equal(read_place(place_text(place)), place)
        self.assert_equal(read_place(text="2.1"), (2, 1))

    def test_wrong_texts(self):
        wrong = ("", "0", "5", "1.", ".1", "..", "1..2", "12", "1,2", " 1", "1 ", "1\n", "a", "1.5", "()", "-", "1+2")
        for value in wrong:
            self.assertIsNone(read_place(value), value)

    def test_any_values_that_are_no_texts_of_places(self):
        found = [value for value in ANY_VALUES if read_place(value) is not None]
        self.assertEqual(found, [".", "1"])

    def test_each_short_text_is_read_if_it_is_a_text(self):
        texts = {place_text(place) for many in range(4) for place in itertools.product((1, 2, 3, 4), repeat=many)}
        for many in range(6):
            for letters in itertools.product("14.5", repeat=many):
                text = "".join(letters)
                self.assertEqual(read_place(text) is not None, text in texts, text)

    def test_texts_of_lots(self):
        self.assertEqual(lot_text([]), "0")
        self.assertEqual(lot_text(()), "0")
        self.assertEqual(lot_text([()]), ".")
        self.assertEqual(lot_text(((2,), (1, 1), (), (1,))), ".+1+1.1+2")
        self.assertEqual(lot_text(lot=[(2,), (1,)]), "1+2")

    def test_texts_of_lots_in_any_order_with_places_twice(self):
        for order in itertools.permutations([(), (1,), (1, 2), (1, 2)]):
            self.assertEqual(lot_text(list(order)), ".+1+1.2")
            self.assertEqual(lot_text(order), ".+1+1.2")

    def test_lots_are_not_changed(self):
        lot = [(2,), (1,), (2,)]
        lot_text(lot)
        self.assertEqual(lot, [(2,), (1,), (2,)])


if __name__ == "__main__":
    unittest.main()
