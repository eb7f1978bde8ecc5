import unittest

from sumspan.errors import BadKind, BadNet, BadRow, BadText, SumError, Wrong

REFUSALS = (BadNet, BadRow, BadKind, Wrong, BadText)


class TestErrors(unittest.TestCase):
    def test_any_refusal_is_a_sum_error(self):
        self.assertTrue(issubclass(SumError, ValueError))
        for refusal in REFUSALS:
            self.assertTrue(issubclass(refusal, SumError), refusal)
            self.assertIsNot(refusal, SumError)

    def test_none_stands_below_another(self):
        for one in REFUSALS:
            for other in REFUSALS:
                self.assertEqual(issubclass(one, other), one is other, (one, other))

    def test_each_is_raised_with_words(self):
        for refusal in REFUSALS:
            with self.assertRaises(SumError):
                raise refusal("words")


if __name__ == "__main__":
    unittest.main()
