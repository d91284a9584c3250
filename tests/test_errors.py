"""The error classes of the interface."""

import unittest

from weavepull import errors
from weavepull.errors import BadLine, BadText, LetGo, NoOutlet, NoSource, Over, WeaveError

UNDER = (BadLine, BadText, NoOutlet, LetGo, NoSource, Over)


class ErrorTests(unittest.TestCase):
    def test_weave_error_is_a_value_error(self):
        self.assertTrue(issubclass(WeaveError, ValueError))

    def test_each_is_under_weave_error(self):
        for error in UNDER:
            self.assertTrue(issubclass(error, WeaveError), error)
            self.assertIsNot(error, WeaveError)

    def test_none_is_under_another_one(self):
        for error in UNDER:
            for other in UNDER:
                if error is not other:
                    self.assertFalse(issubclass(error, other), (error, other))

    def test_each_is_defined_in_errors(self):
        for error in UNDER + (WeaveError,):
            self.assertEqual(error.__module__, "weavepull.errors")
            self.assertIs(getattr(errors, error.__name__), error)

    def test_fields_of_bad_line(self):
        error = BadLine(7, "place")
        self.assertEqual((error.at, error.why), (7, "place"))
        self.assertEqual(vars(error), {"at": 7, "why": "place"})

    def test_field_of_bad_text(self):
        error = BadText(4)
        self.assertEqual(error.row, 4)
        self.assertEqual(vars(error), {"row": 4})

    def test_each_can_be_raised_and_caught_as_a_value_error(self):
        made = [BadLine(0, "many"), BadText(0), NoOutlet(), LetGo(), NoSource(), Over(), NoOutlet("3")]
        for error in made:
            with self.assertRaises(ValueError) as caught:
                raise error
            self.assertIs(caught.exception, error)


if __name__ == "__main__":
    unittest.main()
