"""Promise [5]: the errors of the program."""

import unittest

from commonground import errors

PLAIN = ("BadModel", "Refused", "NotASolution", "TooLarge", "Unfinished", "Stopped")
TOLD = ("Taken", "NoSuch")


class ErrorsTest(unittest.TestCase):
    def test_ground_error_is_a_value_error(self):
        self.assertEqual(errors.GroundError.__bases__, (ValueError,))

    def test_all_others_rest_on_ground_error_alone(self):
        for name in PLAIN + TOLD + ("BadText",):
            with self.subTest(name):
                self.assertEqual(getattr(errors, name).__bases__, (errors.GroundError,))

    def test_plain_errors_take_nothing(self):
        for name in PLAIN:
            with self.subTest(name), self.assertRaises(errors.GroundError):
                raise getattr(errors, name)()

    def test_what_is_kept(self):
        for name in TOLD:
            for what in ("x1", -3, 0):
                with self.subTest(name=name, what=what):
                    self.assertEqual(getattr(errors, name)(what).what, what)

    def test_bad_text_keeps_line_and_word(self):
        error = errors.BadText(3, 0)
        self.assertEqual((error.line, error.word), (3, 0))


if __name__ == "__main__":
    unittest.main()
