import unittest

from fairbook.errors import BadOrder, BookError, NotNow, NotThere

REFUSALS = (BadOrder, NotThere, NotNow)


class ErrorsTest(unittest.TestCase):
    def test_book_error_is_straight_below_value_error(self):
        self.assertEqual(BookError.__bases__, (ValueError,))

    def test_each_refusal_is_below_book_error(self):
        for refusal in REFUSALS:
            with self.subTest(refusal=refusal.__name__):
                self.assertTrue(issubclass(refusal, BookError))
                self.assertIsNot(refusal, BookError)

    def test_no_refusal_is_below_another(self):
        for one in REFUSALS:
            for other in REFUSALS:
                if one is not other:
                    with self.subTest(one=one.__name__, other=other.__name__):
                        self.assertFalse(issubclass(one, other))

    def test_the_classes_bear_their_names(self):
        names = [one.__name__ for one in (BookError,) + REFUSALS]
        self.assertEqual(names, ["BookError", "BadOrder", "NotThere", "NotNow"])

    def test_each_refusal_is_taken_as_a_book_error(self):
        for refusal in REFUSALS:
            with self.subTest(refusal=refusal.__name__):
                with self.assertRaises(BookError):
                    raise refusal("refused")


if __name__ == "__main__":
    unittest.main()
