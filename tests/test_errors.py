import unittest

from pairbook.errors import BookError, NoAccount, NoAmount, OneAccount, TooDeep

REFUSALS = (NoAccount, OneAccount, NoAmount, TooDeep)


class ErrorsTest(unittest.TestCase):
    def test_book_error_stands_under_value_error(self):
        self.assertEqual(BookError.__bases__, (ValueError,))

    def test_each_refusal_stands_straight_under_book_error(self):
        for refusal in REFUSALS:
            with self.subTest(refusal=refusal.__name__):
                self.assertEqual(refusal.__bases__, (BookError,))

    def test_the_refusals_are_four_different_classes(self):
        self.assertEqual(len(set(REFUSALS)), 4)

    def test_each_has_its_own_name(self):
        names = [refusal.__name__ for refusal in (BookError,) + REFUSALS]
        self.assertEqual(names, ["BookError", "NoAccount", "OneAccount", "NoAmount", "TooDeep"])


if __name__ == "__main__":
    unittest.main()
