"""Point 3: the classes of the refusals, and their field."""

import unittest

from tracefold.errors import FoldError, NoPlace, NoRow


class ErrorClasses(unittest.TestCase):
    def test_each_keeps_the_number_of_the_row(self):
        for kind in (FoldError, NoRow, NoPlace):
            self.assertEqual(kind(0).at, 0)
            self.assertEqual(kind(7).at, 7)
            self.assertIs(type(kind(7).at), int)

    def test_the_field_stands_on_each_object(self):
        for kind in (FoldError, NoRow, NoPlace):
            self.assertIn("at", vars(kind(3)))

    def test_all_are_refusals_and_value_errors(self):
        self.assertTrue(issubclass(FoldError, ValueError))
        self.assertTrue(issubclass(NoRow, FoldError))
        self.assertTrue(issubclass(NoPlace, FoldError))

    def test_neither_refusal_is_under_the_other(self):
        self.assertFalse(issubclass(NoRow, NoPlace))
        self.assertFalse(issubclass(NoPlace, NoRow))


if __name__ == "__main__":
    unittest.main()
