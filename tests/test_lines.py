"""Lines and their words: [280], [281], and lines.py of the interface."""

import unittest

from soundturns.lines import is_name, number_in, told, untold, words_of
from soundturns.words import is_word


class WordsOfTest(unittest.TestCase):
    def test_words(self):
        for line, words in (("a", ["a"]), ("list a 2", ["list", "a", "2"]), ("! ~ # -", ["!", "~", "#", "-"]),
                            ("a > b / _ b ; b > - / _", ["a", ">", "b", "/", "_", "b", ";", "b", ">", "-", "/", "_"]),
                            ("x" * 1000, ["x" * 1000]), ("\\n", ["\\n"])):
            self.assertEqual(words_of(line), words)

    def test_malformed(self):
        for line in ("", " ", "  ", " a", "a ", "a  b", "a b ", " a b", "a   b", "  a", "a  ", "a\tb", "a\nb", "a\n",
                     "\n", "a\rb", "\u00e9", "a \u00a0 b", "a\u2003b", "\x00", "a \x1f", "\x7f", "a\x7f", "a \u0080",
                     "\u0131 b"):
            self.assertIsNone(words_of(line), repr(line))

    def test_all_characters(self):
        for code in range(400):
            sign = chr(code)
            expected = [sign] if "!" <= sign <= "~" else None
            self.assertEqual(words_of(sign), expected)
            self.assertEqual(words_of("a " + sign + " b"), None if expected is None else ["a", sign, "b"])

    def test_no_list_is_shared(self):
        words_of("a b").append("c")
        self.assertEqual(words_of("a b"), ["a", "b"])


class IsNameTest(unittest.TestCase):
    def test_lengths(self):
        for many in range(30):
            self.assertIs(is_name("a" * many), 1 <= many <= 12)
        self.assertIs(is_name("abcdefghijkl"), True)
        self.assertIs(is_name("mnopqrstuvwx"), True)
        self.assertIs(is_name("yz"), True)

    def test_characters(self):
        for code in range(400):
            sign = chr(code)
            for word in (sign, "a" + sign, sign + "z", "a" + sign + "z"):
                self.assertIs(is_name(word), "a" <= sign <= "z", repr(word))
        for word in ("A", "aB", "a1", "1", "a-", "-", "_", "a b", "\u00e9", "\u00df", "\u0131", "a\n"):
            self.assertIs(is_name(word), False, word)


class NumberTest(unittest.TestCase):
    def test_all_numbers(self):
        for number in range(-20, 300):
            found = number_in(str(number))
            self.assertEqual(found, number if 0 <= number <= 99 else None)
            self.assertIsInstance(found, int if 0 <= number <= 99 else type(None))

    def test_other_words(self):
        for word in ("", "00", "07", "01", "000", "0 ", " 1", "1 ", "+1", "-1", "-0", "1_0", "1.", "0x1", "a", "1a",
                     "\u0661", "\u00b2", "\uff11", "1\n", "10\n", "9" * 5000, "--", "-"):
            self.assertIsNone(number_in(word), word)


class ToldTest(unittest.TestCase):
    def test_words(self):
        for text in ("a", "ab", "b" * 100, "f"):
            self.assertEqual((told(text), untold(text)), (text, text))
        self.assertEqual((told(""), untold("-")), ("-", ""))
        self.assertEqual((untold("--"), untold("a-"), untold("#")), ("--", "a-", "#"))
        self.assertIs(is_word(2, untold("-")), True)
        for text in ("", "a", "bab"):
            self.assertEqual(untold(told(text)), text)


if __name__ == "__main__":
    unittest.main()
