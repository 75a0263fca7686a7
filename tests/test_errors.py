import unittest

from sheetask.errors import AskError, NoColumn, NoQuestion, NoTable, NotAlike, TwoColumns

REFUSALS = (NoQuestion, NoTable, NoColumn, TwoColumns, NotAlike)


class Errors(unittest.TestCase):
    def test_any_refusal_is_a_value_error(self):
        self.assertEqual(AskError.__bases__, (ValueError,))

    def test_each_refusal_stands_straight_under_ask_error(self):
        for refusal in REFUSALS:
            with self.subTest(refusal=refusal.__name__):
                self.assertEqual(refusal.__bases__, (AskError,))
                self.assertTrue(issubclass(refusal, ValueError))

    def test_no_refusal_stands_under_another(self):
        for refusal in REFUSALS:
            for other in REFUSALS:
                with self.subTest(refusal=refusal.__name__, other=other.__name__):
                    self.assertEqual(issubclass(refusal, other), refusal.__name__ == other.__name__)

    def test_each_is_called_by_its_own_name(self):
        names = [refusal.__name__ for refusal in (AskError,) + REFUSALS]
        self.assertEqual(names, ["AskError", "NoQuestion", "NoTable", "NoColumn", "TwoColumns", "NotAlike"])

    def test_each_is_raised_and_taken_as_ask_error_and_as_value_error(self):
        for refusal in (AskError,) + REFUSALS:
            for taken in (refusal, AskError, ValueError):
                with self.subTest(refusal=refusal.__name__, taken=taken.__name__):
                    with self.assertRaises(taken):
                        raise refusal("some words")

    def test_ask_error_is_none_of_the_five(self):
        for refusal in REFUSALS:
            self.assertNotIsInstance(AskError("some words"), refusal)


if __name__ == "__main__":
    unittest.main()
