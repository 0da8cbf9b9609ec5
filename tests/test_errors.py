"""The interface of notslower.errors."""

import unittest

from notslower import errors
from notslower.errors import BadClaim, BadEntry, BadLine, BadStep, BadText, TermError

PLACED = (BadText, BadStep, BadEntry, BadLine)
ALL = PLACED + (BadClaim,)


class ErrorClasses(unittest.TestCase):
    def test_the_base_of_all_is_a_value_error(self):
        self.assertEqual(TermError.__bases__, (ValueError,))

    def test_each_error_has_the_base_that_is_told(self):
        for error in ALL:
            with self.subTest(error=error.__name__):
                self.assertEqual(error.__bases__, (TermError,))

    def test_none_is_a_base_class_of_another_one(self):
        for one in ALL:
            for other in ALL:
                if one is not other:
                    self.assertFalse(issubclass(one, other), (one, other))

    def test_each_is_defined_in_the_file_that_lists_it(self):
        for error in (TermError,) + ALL:
            self.assertEqual(error.__module__, "notslower.errors")
            self.assertIs(getattr(errors, error.__name__), error)

    def test_each_defines_its_own_creation(self):
        for error in ALL:
            self.assertIn("__init__", vars(error))


class Attributes(unittest.TestCase):
    def test_at_is_set_when_the_error_is_created(self):
        for error in PLACED:
            for at in (0, 1, 999):
                with self.subTest(error=error.__name__, at=at):
                    self.assertEqual(error(at).at, at)
                    self.assertFalse(hasattr(error(at), "what"))

    def test_what_is_set_when_the_error_is_created(self):
        for what in ("context", "first", "second"):
            self.assertEqual(BadClaim(what).what, what)
            self.assertFalse(hasattr(BadClaim(what), "at"))

    def test_each_object_has_its_own(self):
        one, other = BadText(3), BadText(4)
        self.assertEqual((one.at, other.at), (3, 4))

    def test_each_is_caught_as_a_value_error(self):
        for error in ALL:
            with self.assertRaises(ValueError):
                raise error(0)

    def test_there_is_some_wording(self):
        for error in ALL:
            self.assertTrue(str(error(0)))


if __name__ == "__main__":
    unittest.main()
