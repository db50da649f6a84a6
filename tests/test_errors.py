"""The classes of errors, and what each stands under."""

import unittest

from whistlebook import errors

REFUSALS = (
    "OutOfRange",
    "KnownReferee",
    "TooManyReferees",
    "UnknownReferee",
    "TooManyMatches",
    "SameClub",
    "NoSuchMatch",
    "NoSuchRound",
    "RoundOver",
    "SeasonOver",
    "AwayAlready",
    "DrawnUp",
    "NotDrawn",
    "NothingToTakeBack",
    "TooManyDeeds",
)


class ErrorsTest(unittest.TestCase):
    def test_book_error_stands_right_under_value_error(self):
        self.assertEqual(errors.BookError.__bases__, (ValueError,))

    def test_each_refusal_stands_right_under_book_error(self):
        for name in REFUSALS:
            with self.subTest(name=name):
                self.assertEqual(getattr(errors, name).__bases__, (errors.BookError,))

    def test_no_refusal_stands_under_another(self):
        for name in REFUSALS:
            for other in REFUSALS:
                if name != other:
                    with self.subTest(name=name, other=other):
                        self.assertFalse(issubclass(getattr(errors, name), getattr(errors, other)))

    def test_each_class_bears_its_own_name(self):
        for name in ("BookError",) + REFUSALS:
            with self.subTest(name=name):
                self.assertEqual(getattr(errors, name).__name__, name)

    def test_each_refusal_can_be_raised_and_taken_as_book_error(self):
        for name in REFUSALS:
            with self.subTest(name=name):
                with self.assertRaises(errors.BookError):
                    raise getattr(errors, name)("words")


if __name__ == "__main__":
    unittest.main()
