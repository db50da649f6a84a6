"""The sizes, each with the value of the interface."""

import unittest

from whistlebook import sizes

VALUES = {
    "MOST_NUMBER": 999,
    "MOST_GRADE": 9,
    "MOST_CLUB": 99,
    "MOST_REFEREES": 30,
    "MOST_MATCHES": 20,
    "MOST_ROUNDS": 60,
    "MOST_REST": 10,
    "MOST_DEEDS": 100,
}


class SizesTest(unittest.TestCase):
    def test_each_name_has_its_value(self):
        for name, value in VALUES.items():
            with self.subTest(name=name):
                self.assertEqual(getattr(sizes, name), value)

    def test_each_value_is_a_whole_number(self):
        for name in VALUES:
            with self.subTest(name=name):
                self.assertIs(type(getattr(sizes, name)), int)


if __name__ == "__main__":
    unittest.main()
