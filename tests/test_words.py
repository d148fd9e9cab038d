"""Promise [83]: written integers."""

import unittest

from commonground.errors import TooLarge
from commonground.text.words import integer_text, read_integer


class WritingTest(unittest.TestCase):
    def test_integers(self):
        for n, text in ((0, "0"), (7, "7"), (-7, "-7"), (10, "10"), (-1000, "-1000"), (10 ** 50, "1" + "0" * 50)):
            self.assertEqual(integer_text(n), text)
            self.assertEqual(read_integer(text), n)

    def test_600_and_601_digits(self):
        for n in (10 ** 600 - 1, -(10 ** 600 - 1), 10 ** 599, -(10 ** 599)):
            self.assertEqual(len(integer_text(n).lstrip("-")), 600)
            self.assertEqual(read_integer(integer_text(n)), n)
        for n in (10 ** 600, -(10 ** 600), 10 ** 600 + 1, 10 ** 5000, -(10 ** 5000), 10 ** 50000):
            with self.assertRaises(TooLarge):
                integer_text(n)


class ReadingTest(unittest.TestCase):
    def test_words_that_are_no_integers(self):
        for word in (
            "", "-", "+", "+7", "-0", "--7", "00", "01", "-01", "007", "7-", "7.0", "1e3", "1_000", " 7", "7 ", "7\n",
            "\n7", "x", "0x1", "-x", "a7", "7a", "\u0663", "\u00b2", "\uff17", "1,000", "(7)", "<=", "1*2", "- 7",
        ):
            self.assertIsNone(read_integer(word), word)

    def test_600_and_601_digits(self):
        self.assertEqual(read_integer("9" * 600), 10 ** 600 - 1)
        self.assertEqual(read_integer("-" + "9" * 600), 1 - 10 ** 600)
        for word in ("9" * 601, "-" + "9" * 601, "1" + "0" * 600, "0" * 600, "9" * 10000):
            self.assertIsNone(read_integer(word))


if __name__ == "__main__":
    unittest.main()
