"""Names, holes, numbers, the blank."""

import unittest

from remainways.words import BLANK, is_hole, is_name, is_number
from tests.helper import ANY_VALUES, Case


class WordsTest(Case):
    def test_names(self):
        for value in ("a", "z", "add", "abcdefgh"):
            self.assertIs(is_name(value), True)
        for value in ("", "abcdefghi", "A", "aB", "a1", "a_", "_", "a b", " a", "a\n", "\u00e9", "a.", "ab-"):
            self.assertIs(is_name(value), False, value)

    def test_holes(self):
        for value in ("A", "Z", "XY", "WXYZ"):
            self.assertIs(is_hole(value), True)
        for value in ("", "ABCDE", "a", "Ab", "aB", "X1", "_", "X ", "X\n", "\u00c9"):
            self.assertIs(is_hole(value), False, value)

    def test_any_values_that_are_no_words(self):
        names = [value for value in ANY_VALUES if is_name(value)]
        self.assertEqual(names, ["a", "add"])
        self.assertEqual([value for value in ANY_VALUES if is_hole(value)], ["X"])
        for value in (b"a", ["a"], ("a",), [["X"]]):
            self.assertIs(is_name(value), False)
            self.assertIs(is_hole(value), False)

    def test_numbers(self):
        self.assertIs(is_number(3, 1, 4), True)
        self.assertIs(is_number(1, 1, 4), True)
        self.assertIs(is_number(4, 1, 4), True)
        self.assertIs(is_number(0, 1, 4), False)
        self.assertIs(is_number(5, 1, 4), False)
        self.assertIs(is_number(-3, -3, -3), True)

    def test_numbers_of_any_size(self):
        great = 10 ** 200
        self.assertIs(is_number(great, great, great), True)
        self.assertIs(is_number(great - 1, great, great + 1), False)
        self.assertIs(is_number(-great, -great - 1, 0), True)

    def test_true_and_false_are_no_numbers(self):
        self.assertIs(is_number(True, 0, 4), False)
        self.assertIs(is_number(False, 0, 4), False)

    def test_any_values_that_are_no_numbers(self):
        found = [value for value in ANY_VALUES if is_number(value, -10, 10)]
        self.assert_equal(found, [0, 1, -1, 5])

    def test_blank(self):
        self.assertEqual(BLANK, "_")

    def test_by_name(self):
        self.assertTrue(is_name(value="a") and is_hole(value="A") and is_number(value=2, least=1, most=2))


if __name__ == "__main__":
    unittest.main()
