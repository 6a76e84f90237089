"""The errors: their families, parameters, attributes and codes."""

import unittest

from remainways import errors
from tests.helper import ERRORS

FAMILIES = {"WorkError": ValueError, "Missing": LookupError, "NothingLeft": IndexError}


class ErrorsTest(unittest.TestCase):
    def test_families_have_their_direct_bases(self):
        for name, base in FAMILIES.items():
            self.assertEqual(getattr(errors, name).__bases__, (base,))

    def test_each_error_has_its_family_as_direct_base(self):
        for family, names in ERRORS.items():
            for name in names:
                self.assertEqual(getattr(errors, name).__bases__, (getattr(errors, family),))

    def test_there_are_no_other_classes(self):
        found = [name for name, value in vars(errors).items() if isinstance(value, type)]
        wanted = list(FAMILIES) + [name for names in ERRORS.values() for name in names]
        self.assertEqual(sorted(found), sorted(wanted))
        self.assertEqual(len(wanted), 47)

    def test_parameters_by_place_and_by_name(self):
        for names in ERRORS.values():
            for name, words in names.items():
                values = [object() for _ in words.split()]
                by_place = getattr(errors, name)(*values)
                by_name = getattr(errors, name)(**dict(zip(words.split(), values)))
                for error in (by_place, by_name):
                    self.assertEqual(error.code, name)
                    self.assertEqual([getattr(error, word) for word in words.split()], values)

    def test_parameters_take_any_values(self):
        for value in (None, True, "text", [1, [2]], (1, ("a",)), errors.TooGreat()):
            self.assertIs(errors.NoStep(value, value).place, value)
            self.assertIs(errors.NoStep(value, value).at, value)
            self.assertIs(errors.UnknownName(value).name, value)
            self.assertIs(errors.NoOrder(value).number, value)

    def test_missing_parameters_are_refused(self):
        for call in (errors.InvalidName, lambda: errors.InvalidText(0), lambda: errors.TooGreat(1)):
            with self.assertRaises(TypeError):
                call()

    def test_families_themselves_have_no_code(self):
        for name in FAMILIES:
            self.assertFalse(hasattr(getattr(errors, name)(), "code"))

    def test_families_catch_their_own_errors_alone(self):
        for family, names in ERRORS.items():
            for name, words in names.items():
                error = getattr(errors, name)(*words.split())
                for other, base in FAMILIES.items():
                    self.assertEqual(isinstance(error, getattr(errors, other)), other == family)
                    caught = issubclass(FAMILIES[family], base)
                    self.assertEqual(isinstance(error, base), caught)

    def test_no_error_catches_another_one(self):
        classes = [getattr(errors, name) for names in ERRORS.values() for name in names]
        for one in classes:
            for other in classes:
                self.assertEqual(issubclass(one, other), one is other)


if __name__ == "__main__":
    unittest.main()
