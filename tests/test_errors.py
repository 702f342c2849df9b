import unittest

from stairtable import errors

NAMES = ["NoTable", "NoMarks", "NoPair", "NoLine", "NoShape", "Empty"]


class Errors(unittest.TestCase):
    def test_any_refusal_is_a_value_error(self):
        self.assertEqual(errors.StairError.__bases__, (ValueError,))

    def test_each_refusal_stands_under_stair_error(self):
        for name in NAMES:
            with self.subTest(name=name):
                self.assertEqual(getattr(errors, name).__bases__, (errors.StairError,))

    def test_refusals_are_told_apart(self):
        self.assertEqual(len({getattr(errors, name) for name in NAMES}), len(NAMES))

    def test_refusals_can_be_raised_and_taken(self):
        for name in NAMES:
            for taken in (getattr(errors, name), errors.StairError, ValueError):
                with self.subTest(name=name, taken=taken), self.assertRaises(taken):
                    raise getattr(errors, name)("words")


if __name__ == "__main__":
    unittest.main()
