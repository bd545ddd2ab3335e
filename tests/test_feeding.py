"""Rules that feed and bleed, and idle rules: [41], [223], [224], [227], and feeding.py of the interface."""

import random
import unittest
from time import process_time

from soundturns.errors import BadNumber, NotRule, NotWord, TooLarge
from soundturns.feeding import bleeding, feeding, first_acting, idle, is_met
from soundturns.lists import acting
from soundturns.orders import needless
from soundturns.texts import read_rule, read_rules
from tests.samples import (BAD_NUMBERS, all_rules, first_in_order, left_contexts, right_contexts, slow_change,
                           slow_indexes, slow_list, small_rule, some_list, some_rule, words_up_to)
from tests.test_making import BAD_RULES, MANY_STATES, SIXTY_ONE

SHORT = words_up_to(2, 6)
# Six rules of two sets of three letters on each side, one that takes an `a` away, and one that does so in vain.
MANY_PLACES = read_rules(6, " ; ".join((
    "b > f / acd bef _ abd cde", "c > e / bdf abe _ cef abd", "d > b / ace acf _ bdf ade", "e > c / bde abd _ acf def",
    "f > d / acf bcd _ ade bcf", "c > f / abf cde _ abc def", "a > - / b c _ d e", "a > b / b c _ d e")))


def has(rule, word):
    """Return whether a rule stands somewhere in a word."""
    return slow_indexes(rule, word) != []


def slow_feeding(one, other, words):
    """Return the first of some words that shows that the first rule feeds the second one, or None."""
    return first_in_order([word for word in words if not has(other, word) and has(other, slow_change(one, word))])


def slow_bleeding(one, other, words):
    """Return the first of some words that shows that the first rule bleeds the second one, or None."""
    return first_in_order([word for word in words if has(other, word) and not has(other, slow_change(one, word))])


def slow_acting(rules, index, words):
    """Return the first of some words on which a rule acts, or None."""
    return first_in_order([word for word in words if has(rules[index], slow_list(rules[:index], word))])


class FeedingTest(unittest.TestCase):
    def check(self, k, one, other, words):
        """Check the first words by the words of at most some length; longer ones by themselves. Return both."""
        longest = len(words[-1])
        fed, bled = feeding(k, one, other), bleeding(k, one, other)
        for told, slow in ((fed, slow_feeding), (bled, slow_bleeding)):
            self.assertEqual(told if told is not None and len(told) <= longest else None, slow(one, other, words))
            if told is not None:
                self.assertEqual(slow(one, other, [told]), told)
        return fed, bled

    def test_example(self):
        one, other = read_rule(2, "a > b / _ b"), read_rule(2, "b > a / _ b")
        self.assertEqual(feeding(2, one, other), "ab")
        self.assertEqual(slow_list((one, other), "ab"), "ab")
        self.assertEqual(slow_list((other, one), "ab"), "bb")

    def test_ordinary(self):
        for one, other, fed, bled in (
                ("a > b / _", "b > a / _", "a", None), ("b > a / _", "b > a / _ b", None, "bb"),
                ("a > - / _", "b > a / b _ b", "babb", None), ("a > - / _", "b > a / _ #", "ba", None),
                ("a > - / _", "b > a / a _", None, "ab"), ("a > b / # _ #", "b > a / # _ #", "a", None),
                ("a > ba / a _", "b > a / a _ a", "aa", None), ("a > - / # _", "b > a / # a _", "aab", "ab"),
                ("a > a / _", "a > b / _", None, None), ("a > b / a _", "b > b / b b _ b b", "aaaaaa", None),
                ("a > aba / _ #", "b > a / # ab _", "a", None),
                ("a > - / _ a #", "a > b / # ab _ ab #", "aaaa", "aaa")):
            one, other = read_rule(2, one), read_rule(2, other)
            told = self.check(2, one, other, SHORT)
            self.assertEqual(told, (fed, bled), (one, other))

    def test_rules_and_themselves(self):
        # Where a rule stands nowhere it changes nothing, so it never feeds itself.
        for text, bled in (("a > b / _ b", "ab"), ("a > b / _", "a"), ("a > a / _ b", None), ("a > - / _ b", "ab"),
                           ("a > aa / _ #", None), ("a > b / # _ b", "ab"), ("a > - / # _", "a")):
            rule = read_rule(2, text)
            self.assertEqual(self.check(2, rule, rule, SHORT), (None, bled), text)
        source = random.Random(2232)
        for _ in range(50):
            rule = some_rule(source, 4)
            self.assertIsNone(feeding(4, rule, rule))

    def test_each_pair_of_contexts_of_the_other_rule(self):
        ones = [read_rule(2, text) for text in ("a > b / _ b", "a > - / # _", "b > aba / a _", "b > - / _ ab #")]
        words = words_up_to(2, 5)
        for left in left_contexts(2):
            for right in right_contexts(2):
                for one in ones[::2] if len(left) + len(right) == 4 else ones:
                    self.check(2, one, ("a", "b", left, right), words)

    def test_each_pair_of_contexts_of_the_first_rule(self):
        words = words_up_to(2, 5)
        others = [read_rule(2, text) for text in ("b > a / a _ b", "a > - / # ab _ #")]
        for left in left_contexts(2):
            for right in right_contexts(2):
                for other in others[:1] if len(left) + len(right) == 4 else others:
                    self.check(2, ("a", "b", left, right), other, words)

    def test_some_rules(self):
        source = random.Random(2230)
        lengths = {}
        for _ in range(300):
            k = source.choice((2, 2, 3))
            one, other = some_rule(source, k), some_rule(source, k)
            for told in self.check(k, one, other, SHORT if k == 2 else words_up_to(3, 4)):
                lengths[told and len(told)] = True
        self.assertGreater(len(lengths), 5)

    def test_rules_of_six_letters(self):
        source = random.Random(2231)
        begin = process_time()
        words = words_up_to(6, 3)
        for _ in range(30):
            self.check(6, small_rule(source, 6), small_rule(source, 6), words)
        for _ in range(25):
            one, other = some_rule(source, 6), some_rule(source, 6)
            for told, slow in ((feeding(6, one, other), slow_feeding), (bleeding(6, one, other), slow_bleeding)):
                if told is not None:
                    self.assertEqual(slow(one, other, [told]), told)
        self.assertLess(process_time() - begin, 30)

    def test_errors_in_order(self):
        rule = ("a", "b", (), ())
        for call in (feeding, bleeding):
            for k in BAD_NUMBERS:
                with self.assertRaises(BadNumber):
                    call(k, BAD_RULES[0], BAD_RULES[0])
            for bad in BAD_RULES:
                for one, other in ((bad, rule), (rule, bad), (bad, bad)):
                    with self.assertRaises(NotRule):
                        call(2, one, other)


class IsMetTest(unittest.TestCase):
    def test_by_words(self):
        words = words_up_to(2, 5)
        for rule in all_rules(2)[::41]:
            for word in words[::3]:
                self.assertIs(is_met(2, rule, word), has(rule, word))

    def test_edges(self):
        self.assertIs(is_met(2, ("a", "a", (), ()), ""), False)
        self.assertIs(is_met(2, ("a", "a", ("#",), ("#",)), "a"), True)
        self.assertIs(is_met(2, ("a", "a", ("#",), ("#",)), "aa"), False)
        self.assertIs(is_met(6, ("f", "", ("abcdef",) * 2, ("e", "#")), "a" * 57 + "afe"), True)
        self.assertIs(is_met(6, ("f", "", ("abcdef",) * 2, ("e", "#")), "a" * 56 + "afea"), False)

    def test_errors_in_order(self):
        rule = ("a", "b", (), ())
        for k in BAD_NUMBERS:
            with self.assertRaises(BadNumber):
                is_met(k, BAD_RULES[0], "x")
        for bad in BAD_RULES:
            with self.assertRaises(NotRule):
                is_met(2, bad, "x")
        for word in ("c", "a" * 61, "a b", "A"):
            with self.assertRaises(NotWord):
                is_met(2, rule, word)


class FirstActingTest(unittest.TestCase):
    def test_ordinary(self):
        rules = read_rules(2, "a > b / _ b ; b > - / b _ # ; a > b / _ b ; a > - / # _")
        self.assertEqual([first_acting(2, rules, index) for index in range(4)], ["ab", "ab", "aab", "a"])
        self.assertEqual(idle(2, rules), [])

    def test_a_rule_that_another_one_leaves_nothing(self):
        rules = read_rules(2, "a > b / _ ; a > - / # _ ; b > a / _ b")
        self.assertEqual([first_acting(2, rules, index) for index in range(3)], ["a", None, "aa"])
        self.assertEqual(idle(2, rules), [1])
        self.assertEqual(idle(2, rules[1:]), [])
        self.assertEqual(idle(2, read_rules(2, "a > - / _ ; b > - / _ ; a > b / _ ; b > a / _")), [2, 3])
        self.assertEqual(idle(2, read_rules(2, "a > - / _ ; a > b / _ ; b > a / a _")), [1, 2])

    def test_idle_rules_are_needless(self):
        source = random.Random(2240)
        found = [0, 0]
        for _ in range(300):
            rules = tuple(small_rule(source, 2) for _ in range(source.randint(0, 5)))
            left = idle(2, rules)
            for index in range(len(rules)):
                told = first_acting(2, rules, index)
                self.assertEqual(told, slow_acting(rules, index, SHORT))
                self.assertEqual(index in left, told is None)
            self.assertEqual([index for index in left if index not in needless(2, rules)], [])
            found[0] += len(left)
            found[1] += len(needless(2, rules)) > len(left)
        self.assertGreater(min(found), 20)
        # A rule that acts may be needless.
        rules = read_rules(2, "a > a / _")
        self.assertEqual((idle(2, rules), needless(2, rules)), ([], [0]))

    def test_some_lists(self):
        source = random.Random(2241)
        for _ in range(150):
            k = source.choice((2, 3))
            rules = some_list(source, k, 4)
            words = words_up_to(k, 6 if k == 2 else 4)
            for index in range(len(rules)):
                told = first_acting(k, rules, index)
                self.assertEqual(told if told is not None and len(told) <= len(words[-1]) else None,
                                 slow_acting(rules, index, words))
                if told is not None:
                    self.assertIn(index, acting(k, rules, told))

    def test_indexes(self):
        rules = (("a", "b", (), ()),) * 3
        for many in range(4):
            for index in (-1, -many, many, 10 ** 5000, -10 ** 5000):
                if not 0 <= index < many:
                    with self.assertRaises(BadNumber):
                        first_acting(2, rules[:many], index)
        for index in (-1, 0, 1, 2):
            with self.assertRaises(NotRule):
                first_acting(2, (BAD_RULES[0],), index)

    def test_errors_in_order(self):
        for call in (idle, lambda k, rules: first_acting(k, rules, 0)):
            for k in BAD_NUMBERS:
                with self.assertRaises(BadNumber):
                    call(k, (BAD_RULES[0],))
            for rules in ((BAD_RULES[0],), (("a", "b", (), ()),) * 9):
                with self.assertRaises(NotRule):
                    call(2, rules)
        last = (("a", "b", (), ()),)
        for rules in (MANY_STATES, SIXTY_ONE):
            with self.assertRaises(TooLarge):
                idle(2, rules + last)
            with self.assertRaises(TooLarge):
                first_acting(2, rules + last, len(rules))
            # What stands behind a rule does not matter.
            self.assertIsNotNone(first_acting(2, rules + last, 0))

    def test_many_places(self):
        for call in (lambda rules: first_acting(6, rules, len(rules) - 1), lambda rules: idle(6, rules)):
            with self.assertRaises(TooLarge):
                call(MANY_PLACES)
        self.assertIsNone(first_acting(6, MANY_PLACES[5:], 2))
        self.assertEqual(idle(6, MANY_PLACES[5:]), [2])
        self.assertIsNotNone(first_acting(6, MANY_PLACES, 6))

    def test_eight_rules_of_six_letters(self):
        source = random.Random(2242)
        begin = process_time()
        for _ in range(3):
            self.assertEqual(idle(6, tuple(small_rule(source, 6) for _ in range(7))), [])
            rules = tuple(small_rule(source, 6) for _ in range(3)) + (("f", "", (), ()), ("f", "e", ("a",), ("b", "#")))
            self.assertIn(4, idle(6, rules))
        self.assertLess(process_time() - begin, 15)

    def test_no_list_is_shared(self):
        rules = read_rules(2, "a > b / _ ; a > - / _")
        idle(2, rules).append(7)
        self.assertEqual(idle(2, rules), [1])


if __name__ == "__main__":
    unittest.main()
