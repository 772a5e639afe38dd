import unittest

from beadfit.errors import BeadError, NoPattern


class Errors(unittest.TestCase):
    def test_no_pattern_stands_under_bead_error(self):
        self.assertTrue(issubclass(NoPattern, BeadError))
        self.assertIsNot(NoPattern, BeadError)

    def test_bead_error_stands_under_value_error(self):
        self.assertTrue(issubclass(BeadError, ValueError))
        self.assertIsNot(BeadError, ValueError)

    def test_they_are_raised_with_words_and_taken_by_name(self):
        for taken in (NoPattern, BeadError, ValueError):
            with self.assertRaises(taken) as caught:
                raise NoPattern("no pattern")
            self.assertEqual(str(caught.exception), "no pattern")
        with self.assertRaises(ValueError):
            raise BeadError("refused")


if __name__ == "__main__":
    unittest.main()
