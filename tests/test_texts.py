"""The texts of rules and of lists: [25] and [26], and texts.py of the interface."""

import unittest

from soundturns import texts
from soundturns.errors import BadNumber, Malformed, NotRule
from tests.samples import BAD_NUMBERS, all_rules, left_contexts, right_contexts

EXAMPLE = ("a", "", ("#", "ab"), ("b",))
PLAIN = ("a", "b", ("a",), ())
BROKEN = ("a", "bbbb", (), ())
SIGNS = ("", "a", "b", "ab", "ba", "aa", "aaa", "aaaa", "c", "A", "#", "_", "/", ">", "-", ";",
         "none", "a>b", "##", "\n", "\t", "a\n")


def slow_words(rule):
    """Return the words of the text of a rule."""
    letter, new, left, right = rule
    return (letter, ">", new if new else "-", "/") + left + ("_",) + right


class Oracle:
    """Tells by all texts of rules of two letters where a text goes wrong."""

    def __init__(self):
        self.whole = {slow_words(rule) for rule in all_rules(2)}
        self.begun = {words[:many] for words in self.whole for many in range(len(words) + 1)}

    def begins(self, words, most):
        """Return True if some text of 1 to `most` rules begins with these words."""
        segments = [()]
        for word in words:
            if word == ";":
                segments.append(())
            else:
                segments[-1] += (word,)
        return (len(segments) <= most and segments[-1] in self.begun
                and all(segment in self.whole for segment in segments[:-1]))

    def fault(self, text, most):
        """Return the number that Malformed has, or None for a text that is well formed."""
        words = tuple(text.split(" "))
        for at in range(len(words)):
            if not self.begins(words[:at + 1], most):
                return at
        return None if self.begins(words + (";",), most + 1) else len(words)


ORACLE = Oracle()


def spoiled(text):
    """Return texts that differ from a text in one word."""
    words = text.split(" ")
    found = []
    for at in range(len(words) + 1):
        found.append(words[:at])
        found += [words[:at] + [sign] + words[at:] for sign in SIGNS]
        found += [words[:at] + [sign] + words[at + 1:] for sign in SIGNS]
        found.append(words[:at] + words[at + 1:])
        found.append(words[:at] + words[at:at + 2][::-1] + words[at + 2:])
    return [" ".join(each) for each in found]


class WrittenTest(unittest.TestCase):
    def test_examples(self):
        self.assertEqual(texts.text_of_rule(2, EXAMPLE), "a > - / # ab _ b")
        self.assertEqual(texts.text_of_rule(2, PLAIN), "a > b / a _")
        self.assertEqual(texts.read_rule(2, "a > - / # ab _ b"), EXAMPLE)
        self.assertEqual(texts.read_rule(2, "a > b / a _"), PLAIN)

    def test_each_part(self):
        for rule, text in ((("f", "fed", (), ()), "f > fed / _"),
                           (("b", "", (), ()), "b > - / _"),
                           (("a", "a", ("#",), ("#",)), "a > a / # _ #"),
                           (("a", "bb", ("af", "bc"), ("abcdef", "#")), "a > bb / af bc _ abcdef #"),
                           (("c", "d", (), ("a", "b")), "c > d / _ a b")):
            with self.subTest(text=text):
                self.assertEqual(texts.text_of_rule(6, rule), text)
                self.assertEqual(texts.text_of_rules(6, (rule,)), text)
                self.assertEqual(texts.read_rule(6, text), rule)
                self.assertEqual(texts.read_rules(6, text), (rule,))

    def test_lists(self):
        self.assertEqual(texts.text_of_rules(2, ()), "none")
        self.assertEqual(texts.text_of_rules(2, (PLAIN, EXAMPLE)), "a > b / a _ ; a > - / # ab _ b")
        self.assertEqual(texts.text_of_rules(2, (PLAIN,) * 8), " ; ".join(["a > b / a _"] * 8))
        for k in range(2, 7):
            self.assertEqual(texts.read_rules(k, "none"), ())

    def test_texts_are_read_back(self):
        rules = all_rules(2)
        for at, rule in enumerate(rules):
            text = texts.text_of_rule(2, rule)
            self.assertEqual(text, " ".join(slow_words(rule)))
            self.assertEqual(texts.read_rule(2, text), rule)
            if at % 37 == 0:
                for many in range(9):
                    chosen = tuple(rules[(at + 101 * step) % len(rules)] for step in range(many))
                    self.assertEqual(texts.read_rules(2, texts.text_of_rules(2, chosen)), chosen)

    def test_contexts_of_three_letters_are_read_back(self):
        for left in left_contexts(3):
            for right in right_contexts(3):
                rule = ("c", "ab", left, right)
                self.assertEqual(texts.read_rule(3, texts.text_of_rule(3, rule)), rule)

    def test_errors_of_writing(self):
        for k in BAD_NUMBERS:
            for call in (lambda: texts.text_of_rule(k, BROKEN), lambda: texts.text_of_rules(k, ()),
                         lambda: texts.text_of_rules(k, (BROKEN,)), lambda: texts.read_rule(k, ""),
                         lambda: texts.read_rules(k, ""), lambda: texts.read_rules(k, "none")):
                with self.assertRaises(BadNumber):
                    call()
        with self.assertRaises(NotRule):
            texts.text_of_rule(2, BROKEN)
        for rules in ((PLAIN, BROKEN), (PLAIN,) * 9):
            with self.assertRaises(NotRule):
                texts.text_of_rules(2, rules)


class MalformedTest(unittest.TestCase):
    def check(self, read, k, text, at):
        with self.subTest(read=read.__name__, k=k, text=text):
            with self.assertRaises(Malformed) as caught:
                read(k, text)
            self.assertEqual(caught.exception.at, at)

    def check_both(self, k, text, at):
        self.check(texts.read_rule, k, text, at)
        self.check(texts.read_rules, k, text, at)

    def test_words_that_are_wrong(self):
        for text, at in (("", 0), (" ", 0), ("x", 0), ("c > a / _", 0), ("ab > a / _", 0),
                         ("none ", 0), (" none", 0), ("none ; none", 0),
                         ("none ; a > b / _", 0), ("a < b / _", 1), ("a > c / _", 2),
                         ("a > aaaa / _", 2), ("a > / _", 2), ("a >  / _", 2), ("a > -- / _", 2),
                         ("a > b _", 3), ("a > b / ba _", 4), ("a > b / aa _", 4),
                         ("a > b / c _", 4), ("a > b / a # _", 5), ("a > b / # # _", 5),
                         ("a > b / a b a _", 6), ("a > b / # a b _", 6), ("a > b / _ # a", 6),
                         ("a > b / _ # #", 6), ("a > b / _ a b a", 7), ("a > b / _ a b #", 7),
                         ("a > b / _ ba", 5), ("a > b / _ a ba", 6), ("a > b / _ _", 5),
                         ("a > b / _ -", 5), ("a > b / _ ", 5), (" a > b / _", 0),
                         ("a  > b / _", 1), ("a > b  / _", 3), ("a > b /  _", 4),
                         ("a > b / _  a", 5), ("a > b / _\n", 4), ("a\t> b / _", 0)):
            self.check_both(2, text, at)

    def test_texts_that_end_too_early(self):
        for text in ("a > - / # ab _ b", "a > b / _"):
            words = text.split(" ")
            for many in range(1, words.index("_") + 1):
                self.check_both(2, " ".join(words[:many]), many)

    def test_letters_beyond_the_first(self):
        text = "c > c / c _ c"
        for begin, at in (("", 0), ("a > ", 2), ("a > a / ", 4), ("a > a / a _ ", 6)):
            words = begin.split(" ")[:-1] + text.split(" ")[at:]
            self.check_both(2, " ".join(words), at)
            self.assertTrue(texts.read_rule(3, " ".join(words)))

    def test_one_rule_is_asked_for(self):
        self.check(texts.read_rule, 2, "none", 0)
        self.check(texts.read_rule, 2, "a > b / _ ; b > a / _", 5)
        self.check(texts.read_rule, 2, "a > b / _ ;", 5)
        self.check(texts.read_rule, 2, "a > b / a _ b # ; b > a / _", 8)

    def test_lists_that_go_wrong(self):
        text = "a > b / a _"
        self.check(texts.read_rules, 2, text + " ;", 7)
        self.check(texts.read_rules, 2, text + " ; ", 7)
        self.check(texts.read_rules, 2, text + " ; ;", 7)
        self.check(texts.read_rules, 2, "; " + text, 0)
        self.check(texts.read_rules, 2, text + " ; none", 7)
        self.check(texts.read_rules, 2, text + " none", 6)
        self.check(texts.read_rules, 2, text + " " + text, 7)
        self.check(texts.read_rules, 2, text + " ; b", 8)
        self.check(texts.read_rules, 2, text + "; " + text, 5)

    def test_a_ninth_rule(self):
        text = " ; ".join(["a > b / a _"] * 8)
        self.assertEqual(len(texts.read_rules(2, text)), 8)
        for end in (" ;", " ; ", " ; a", " ; a > b / a _", " ; x"):
            self.check(texts.read_rules, 2, text + end, 55)

    def test_spoiled_texts_of_one_rule(self):
        for rule in all_rules(2)[::211]:
            for text in spoiled(texts.text_of_rule(2, rule)):
                self.check_by_oracle(texts.read_rule, text, 1)

    def test_spoiled_texts_of_lists(self):
        rules = all_rules(2)
        for at in range(0, len(rules), 1733):
            for many in (1, 2, 3, 8):
                chosen = tuple(rules[(at + 977 * step) % len(rules)] for step in range(many))
                for text in spoiled(texts.text_of_rules(2, chosen)):
                    self.check_by_oracle(texts.read_rules, text, 8)

    def check_by_oracle(self, read, text, most):
        at = ORACLE.fault(text, most)
        if at is not None:
            self.check(read, 2, text, at)
            return
        self.assertEqual(texts.text_of_rules(2, texts.read_rules(2, text)), text)


if __name__ == "__main__":
    unittest.main()
