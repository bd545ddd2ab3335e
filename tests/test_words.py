"""Letters, words and their order: [0] to [3], and words.py of the interface."""

import unittest

from soundturns import words
from soundturns.errors import BadNumber, NotWord
from tests.samples import BAD_NUMBERS, LETTERS, words_up_to


class NumberTest(unittest.TestCase):
    def test_bad_numbers_go_ahead_of_all_other_errors(self):
        calls = (
            lambda k: words.letters_of(k),
            lambda k: words.is_word(k, "x" * 61),
            lambda k: words.check_word(k, "x" * 61),
            lambda k: words.is_before(k, "x", "y"),
            lambda k: words.words_of_length(k, 0),
            lambda k: words.words_of_length(k, -1),
        )
        for k in BAD_NUMBERS:
            for at, call in enumerate(calls):
                with self.subTest(call=at), self.assertRaises(BadNumber):
                    call(k)


class WordTest(unittest.TestCase):
    def test_letters(self):
        told = [words.letters_of(k) for k in range(2, 7)]
        self.assertEqual(told, ["ab", "abc", "abcd", "abcde", "abcdef"])

    def test_words(self):
        for k in range(2, 7):
            for word in ("", "a", "b", "ab", "bbba", LETTERS[:k], "a" * 60, LETTERS[k - 1] * 60):
                with self.subTest(k=k, word=word):
                    self.assertIs(words.is_word(k, word), True)
                    self.assertIsNone(words.check_word(k, word))

    def test_strings_that_are_no_words(self):
        signs = ("A", "-", "#", " ", "\n", "0", "g", "_", "\u00e4", "\u0430", "\0")
        for k in range(2, 7):
            strings = ["a" * 61, "ab" * 1000, LETTERS, *signs]
            strings += ["a" + sign for sign in signs] + [sign + "b" for sign in signs]
            strings += ["a" + sign + "b" for sign in signs] + list(LETTERS[k:])
            for word in strings:
                if k == 6 and word == LETTERS:
                    continue
                with self.subTest(k=k, word=word):
                    self.assertIs(words.is_word(k, word), False)
                    with self.assertRaises(NotWord):
                        words.check_word(k, word)

    def test_sixty_letters_and_sixty_one(self):
        self.assertTrue(words.is_word(2, "ab" * 30))
        self.assertFalse(words.is_word(2, "ab" * 30 + "a"))


class OrderTest(unittest.TestCase):
    def test_is_before_follows_the_order(self):
        ordered = words_up_to(3, 3)
        for at, one in enumerate(ordered):
            for at2, other in enumerate(ordered):
                self.assertIs(words.is_before(3, one, other), at < at2)

    def test_shorter_words_come_first(self):
        self.assertTrue(words.is_before(6, "f", "aa"))
        self.assertFalse(words.is_before(6, "aa", "f"))
        self.assertTrue(words.is_before(2, "", "a"))
        self.assertTrue(words.is_before(2, "b" * 59, "a" * 60))
        self.assertTrue(words.is_before(2, "a" * 59 + "a", "a" * 59 + "b"))

    def test_is_before_asks_for_words(self):
        for one, other in (("c", "a"), ("a", "c"), ("a" * 61, "a"), ("a", "a" * 61), ("x", "y")):
            with self.subTest(one=one, other=other), self.assertRaises(NotWord):
                words.is_before(2, one, other)

    def test_in_order(self):
        given = ["b", "ab", "", "b", "aa", "a", "ab", "bbb", "ba"]
        self.assertEqual(words.in_order(given), ["", "a", "b", "aa", "ab", "ba", "bbb"])
        self.assertEqual(given, ["b", "ab", "", "b", "aa", "a", "ab", "bbb", "ba"])
        self.assertEqual(words.in_order([]), [])
        ordered = words_up_to(3, 4)
        self.assertEqual(words.in_order(ordered[::-1] + ordered), ordered)

    def test_in_order_takes_any_letters_and_lengths(self):
        self.assertEqual(words.in_order(["f" * 100, "e" * 5000, "f", "e", "a" * 5000]),
                         ["e", "f", "f" * 100, "a" * 5000, "e" * 5000])

    def test_in_order_gives_a_new_list(self):
        given = ["a", "b"]
        first, second = words.in_order(given), words.in_order(given)
        first.append("x")
        self.assertEqual(given, ["a", "b"])
        self.assertEqual(second, ["a", "b"])


class LengthTest(unittest.TestCase):
    def test_all_words_of_small_lengths(self):
        for k in range(2, 7):
            for length in range(4):
                expected = [word for word in words_up_to(k, 3) if len(word) == length]
                self.assertEqual(words.words_of_length(k, length), expected)
        self.assertEqual(words.words_of_length(2, 0), [""])

    def test_the_largest_length_and_one_more(self):
        for k, length in ((2, 12), (3, 7), (4, 6), (5, 5), (6, 4)):
            with self.subTest(k=k):
                told = words.words_of_length(k, length)
                self.assertEqual(len(told), k ** length)
                self.assertEqual(told, sorted(set(told)))
                self.assertEqual({len(word) for word in told}, {length})
                self.assertTrue(set("".join(told)) <= set(LETTERS[:k]))
                with self.assertRaises(BadNumber):
                    words.words_of_length(k, length + 1)

    def test_negative_and_very_large_lengths(self):
        for k in range(2, 7):
            for length in (-1, -5, -10 ** 5000, 60, 10 ** 30, 10 ** 5000):
                with self.assertRaises(BadNumber):
                    words.words_of_length(k, length)

    def test_results_share_no_list(self):
        words.words_of_length(2, 1).append("x")
        self.assertEqual(words.words_of_length(2, 1), ["a", "b"])


class CommonTest(unittest.TestCase):
    def test_common(self):
        for one, other, both in (("", "", ""), ("a", "", ""), ("", "a", ""), ("a", "a", "a"),
                                 ("a", "b", ""), ("ab", "aa", "a"), ("ab", "abb", "ab"),
                                 ("abb", "ab", "ab"), ("bab", "aab", ""), ("abab", "abba", "ab")):
            with self.subTest(one=one, other=other):
                self.assertEqual(words.common(one, other), both)

    def test_common_of_long_words(self):
        self.assertEqual(words.common("f" * 5000 + "a", "f" * 5000 + "b"), "f" * 5000)
        self.assertEqual(words.common("e" * 61, "e" * 100), "e" * 61)


if __name__ == "__main__":
    unittest.main()
