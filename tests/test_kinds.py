"""The checks of values that the functions whose names begin with is_ rest on."""

import unittest

from neverdark.kinds import is_ascending, is_integer_in, is_tuple_of


class KindsTest(unittest.TestCase):
    def test_integers(self):
        self.assertEqual([is_integer_in(value, 2, 4) for value in (1, 2, 4, 5)], [False, True, True, False])
        for value in ("3", (), (3,), True, None):
            self.assertIs(is_integer_in(value, 0, 9), False)

    def test_tuples(self):
        values = ((), (0,), (0, 0), (0, 0, 0))
        self.assertEqual([is_tuple_of(value, 1, 2) for value in values], [False, True, True, False])
        for value in ("", "a", "ab", 1, None):
            self.assertIs(is_tuple_of(value, 0, 9), False)

    def test_ascending(self):
        for values in ((), (1,), (1, 2, 5), ("a", "b")):
            self.assertIs(is_ascending(values), True)
        for values in ((1, 1), (2, 1), (1, 3, 2), ("a", "b", "b")):
            self.assertIs(is_ascending(values), False)


if __name__ == "__main__":
    unittest.main()
