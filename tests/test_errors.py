"""0.6: the errors."""

import unittest

from neverdark.errors import BadText, NeverdarkError, NotAllowed


class ErrorsTest(unittest.TestCase):
    def test_base_is_a_value_error(self):
        self.assertTrue(issubclass(NeverdarkError, ValueError))

    def test_all_are_neverdark_errors(self):
        self.assertTrue(issubclass(BadText, NeverdarkError))
        self.assertTrue(issubclass(NotAllowed, NeverdarkError))
        self.assertFalse(issubclass(BadText, NotAllowed))
        self.assertFalse(issubclass(NotAllowed, BadText))

    def test_bad_text_has_its_line(self):
        self.assertEqual(BadText(7).line, 7)

    def test_not_allowed_has_its_word(self):
        self.assertEqual(NotAllowed("deed").word, "deed")

    def test_they_are_caught_as_value_errors(self):
        for error in (NeverdarkError("x"), BadText(1), NotAllowed("time")):
            with self.assertRaises(ValueError):
                raise error


if __name__ == "__main__":
    unittest.main()
