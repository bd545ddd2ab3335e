"""The classes of errors, as the interface lists them."""

import unittest

from soundturns import errors

PLAIN = ("NotWord", "NotRule", "NotMachine", "NotLanguage", "NotBook", "BadNumber", "NoAnswer",
         "TooLarge", "OpenTrial")


class ErrorsTest(unittest.TestCase):
    def test_base_is_directly_below_value_error(self):
        self.assertEqual(errors.ShiftError.__bases__, (ValueError,))

    def test_each_class_is_directly_below_the_base(self):
        for name in PLAIN + ("Malformed", "BadJournal"):
            with self.subTest(name=name):
                self.assertEqual(getattr(errors, name).__bases__, (errors.ShiftError,))

    def test_plain_errors_have_a_message(self):
        for name in PLAIN + ("ShiftError",):
            with self.subTest(name=name):
                self.assertEqual(str(getattr(errors, name)("a message")), "a message")

    def test_malformed_has_its_number(self):
        for number in (0, 7, -1, 10 ** 5000):
            error = errors.Malformed(number)
            self.assertEqual(error.at, number)
            self.assertFalse(hasattr(error, "row"))

    def test_bad_journal_has_its_row(self):
        for number in (0, 7, -1, 10 ** 5000):
            error = errors.BadJournal(number)
            self.assertEqual(error.row, number)
            self.assertFalse(hasattr(error, "at"))

    def test_errors_are_caught_by_their_base(self):
        with self.assertRaises(errors.ShiftError):
            raise errors.Malformed(3)
        with self.assertRaises(ValueError):
            raise errors.NotBook("none")


if __name__ == "__main__":
    unittest.main()
