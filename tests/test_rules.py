"""Rules: [20] to [24] and [26], and rules.py of the interface."""

import unittest
from itertools import permutations, product

from soundturns import rules
from soundturns.errors import BadNumber, NotRule, NotWord
from tests.samples import (BAD_NUMBERS, LETTERS, all_rules, left_contexts, right_contexts,
                           slow_change, slow_indexes, words_up_to)

GOOD = ("a", "b", ("#", "ab"), ("b", "#"))
BROKEN = ("a", "bbbb", (), ())


def with_part(at, part):
    """Return a good rule with another part."""
    return GOOD[:at] + (part,) + GOOD[at + 1:]


def few_rules(k, step):
    """Return some of all rules, spread over them evenly."""
    return all_rules(k)[::step]


class FormTest(unittest.TestCase):
    def check(self, k, rule, expected):
        with self.subTest(k=k, rule=rule):
            self.assertIs(rules.is_rule(k, rule), expected)
            self.assertIs(rules.is_rules(k, (rule,)), expected)
            self.assertIs(rules.is_rules(k, (GOOD, rule)), expected)

    def test_letters(self):
        for letter, expected in (("a", True), ("b", True), ("c", False), ("", False), ("ab", False),
                                 ("#", False), ("A", False), ("-", False), ("aa", False)):
            self.check(2, with_part(0, letter), expected)
        self.check(6, ("f", "fff", ("f",), ("f",)), True)
        self.check(5, ("f", "a", (), ()), False)

    def test_new(self):
        for new, expected in (("", True), ("a", True), ("ba", True), ("bbb", True), ("aaaa", False),
                              ("abab", False), ("c", False), ("aac", False), ("#", False),
                              ("-", False), ("a b", False)):
            self.check(2, with_part(1, new), expected)
        self.check(3, with_part(1, "abc"), True)
        self.check(3, with_part(1, "abd"), False)

    def test_sets(self):
        for k, place, expected in ((2, "a", True), (2, "ab", True), (2, "ba", False), (2, "aa", False),
                                   (2, "", False), (2, "abb", False), (2, "c", False), (2, "ac", False),
                                   (3, "ac", True), (3, "abc", True), (3, "ca", False),
                                   (3, "acb", False), (3, "abcd", False), (6, LETTERS, True),
                                   (6, LETTERS + "f", False), (2, "#a", False), (2, "a#", False),
                                   (2, "##", False), (2, "-", False), (2, " ", False)):
            for context in ((place,), ("a", place), (place, "a")):
                self.check(k, with_part(2, context), expected)
                self.check(k, with_part(3, context), expected)

    def test_edges(self):
        for context, on_left, on_right in (((), True, True), (("#",), True, True),
                                           (("#", "a"), True, False), (("a", "#"), False, True),
                                           (("#", "#"), False, False)):
            self.check(2, with_part(2, context), on_left)
            self.check(2, with_part(3, context), on_right)

    def test_third_places(self):
        for context in (("a", "a", "a"), ("#", "a", "b"), ("a", "b", "#"), ("a", "b", "a", "b")):
            self.check(2, with_part(2, context), False)
            self.check(2, with_part(3, context), False)

    def test_all_rules_of_two_letters(self):
        for rule in all_rules(2):
            self.assertTrue(rules.is_rule(2, rule))
        for left in left_contexts(3):
            self.assertTrue(rules.is_rule(3, ("c", "", left, ())))
        for right in right_contexts(3):
            self.assertTrue(rules.is_rule(3, ("c", "", (), right)))

    def test_lists(self):
        for many in range(9):
            self.assertIs(rules.is_rules(2, (GOOD,) * many), True)
        self.assertIs(rules.is_rules(2, (GOOD,) * 9), False)
        self.assertIs(rules.is_rules(2, (GOOD,) * 100), False)
        for at in range(8):
            given = (GOOD,) * at + (BROKEN,) + (GOOD,) * (7 - at)
            self.assertIs(rules.is_rules(2, given), False)


class ErrorTest(unittest.TestCase):
    def test_bad_numbers_go_first(self):
        calls = (
            lambda k: rules.is_rule(k, BROKEN),
            lambda k: rules.is_rules(k, (BROKEN,)),
            lambda k: rules.is_rules(k, ()),
            lambda k: rules.stands(k, BROKEN, "x"),
            lambda k: rules.changed(k, BROKEN, "x"),
            lambda k: rules.turned(k, BROKEN),
            lambda k: rules.renamed_word(k, "x", "x"),
            lambda k: rules.renamed(k, BROKEN, "x"),
        )
        for k in BAD_NUMBERS:
            for at, call in enumerate(calls):
                with self.subTest(call=at), self.assertRaises(BadNumber):
                    call(k)

    def test_not_rule_goes_ahead_of_not_word(self):
        for call in (lambda: rules.stands(2, BROKEN, "x"), lambda: rules.changed(2, BROKEN, "x"),
                     lambda: rules.turned(2, BROKEN), lambda: rules.renamed(2, BROKEN, "x")):
            with self.assertRaises(NotRule):
                call()

    def test_not_word(self):
        for word in ("a" * 61, "c", "a b", "#"):
            with self.assertRaises(NotWord):
                rules.stands(2, GOOD, word)
            with self.assertRaises(NotWord):
                rules.changed(2, GOOD, word)
            with self.assertRaises(NotWord):
                rules.renamed_word(2, word, "ab")

    def test_strings_that_are_no_arrangement(self):
        for k, names in ((2, ""), (2, "a"), (2, "aa"), (2, "abc"), (2, "ac"), (2, "abb"),
                         (3, "ab"), (3, "abb"), (3, "abd"), (6, "abcde"), (6, "abcdeff")):
            with self.subTest(k=k, names=names):
                with self.assertRaises(NotWord):
                    rules.renamed_word(k, "ab", names)
                with self.assertRaises(NotWord):
                    rules.renamed(k, GOOD, names)


class ChangeTest(unittest.TestCase):
    def test_examples(self):
        first = ("a", "", ("#", "ab"), ("b",))
        self.assertEqual(rules.changed(2, first, "aab"), "ab")
        self.assertEqual(rules.stands(2, first, "aab"), [1])
        self.assertEqual(rules.changed(3, first, "caab"), "caab")
        self.assertEqual(rules.stands(3, first, "caab"), [])
        self.assertEqual(rules.changed(2, ("a", "b", ("a",), ()), "aaaa"), "abbb")
        self.assertEqual(rules.stands(2, ("a", "b", ("a",), ()), "aaaa"), [1, 2, 3])

    def test_contexts_of_each_size(self):
        for left, right, word, expected in (
                ((), (), "abaa", [0, 2, 3]), (("a",), (), "abaa", [3]), ((), ("b",), "abaa", [0]),
                (("b", "a"), (), "abaa", [3]), ((), ("b", "a"), "abaa", [0]),
                (("b",), ("a",), "abaa", [2]), (("a", "b"), ("a",), "abaa", [2]),
                (("ab", "ab"), ("ab", "ab"), "aaaaaa", [2, 3]), (("#",), (), "aaa", [0]),
                ((), ("#",), "aaa", [2]), (("#",), ("#",), "aaa", []), (("#",), ("#",), "a", [0]),
                (("#", "a"), (), "aaa", [1]), ((), ("a", "#"), "aaa", [1]),
                (("#", "a"), ("a", "#"), "aaa", [1]), (("#", "a"), ("a", "#"), "aaaa", []),
                ((), (), "", []), (("#",), ("#",), "", []), ((), ("#",), "aab", [])):
            with self.subTest(left=left, right=right, word=word):
                self.assertEqual(rules.stands(2, ("a", "b", left, right), word), expected)

    def test_all_changes_are_made_at_once(self):
        self.assertEqual(rules.changed(2, ("a", "", ("a",), ()), "aaaa"), "a")
        self.assertEqual(rules.changed(2, ("a", "", (), ("a",)), "aaab"), "ab")
        self.assertEqual(rules.changed(2, ("a", "ab", ("b",), ()), "baba"), "babbab")
        self.assertEqual(rules.changed(3, ("b", "c", ("b",), ("b",)), "bbbbb"), "bcccb")

    def test_the_longest_words(self):
        self.assertEqual(rules.changed(2, ("a", "bab", (), ()), "a" * 60), "bab" * 60)
        self.assertEqual(rules.stands(2, ("a", "bab", (), ("#",)), "a" * 60), [59])

    def test_against_a_slow_way(self):
        words = words_up_to(2, 5)
        for rule in few_rules(2, 13):
            for word in words:
                self.assertEqual(rules.stands(2, rule, word), slow_indexes(rule, word))
                self.assertEqual(rules.changed(2, rule, word), slow_change(rule, word))

    def test_results_share_no_list(self):
        rule = ("a", "b", (), ())
        rules.stands(2, rule, "aa").append(7)
        self.assertEqual(rules.stands(2, rule, "aa"), [0, 1])


class TurnTest(unittest.TestCase):
    def test_turned(self):
        self.assertEqual(rules.turned(3, ("a", "abc", ("#", "ab"), ("b", "ac"))),
                         ("a", "cba", ("ac", "b"), ("ab", "#")))
        self.assertEqual(rules.turned(2, ("b", "", (), ())), ("b", "", (), ()))

    def test_what_turned_rules_make(self):
        words = words_up_to(2, 5)
        for rule in few_rules(2, 29):
            about = rules.turned(2, rule)
            self.assertTrue(rules.is_rule(2, about))
            self.assertEqual(rules.turned(2, about), rule)
            for word in words:
                self.assertEqual(rules.changed(2, about, word[::-1]),
                                 rules.changed(2, rule, word)[::-1])


class RenameTest(unittest.TestCase):
    def test_renamed(self):
        self.assertEqual(rules.renamed_word(3, "abcba", "cab"), "cabac")
        self.assertEqual(rules.renamed_word(6, LETTERS, "fedcba"), "fedcba")
        self.assertEqual(rules.renamed_word(2, "", "ba"), "")
        self.assertEqual(rules.renamed_word(2, "ab" * 30, "ba"), "ba" * 30)
        self.assertEqual(rules.renamed(3, ("a", "bac", ("#", "abc"), ("bc", "#")), "cab"),
                         ("c", "acb", ("#", "abc"), ("ab", "#")))

    def test_sets_ascend_again(self):
        self.assertEqual(rules.renamed(4, ("d", "", ("ad",), ("abc", "bd")), "dcba"),
                         ("a", "", ("ad",), ("bcd", "ac")))

    def test_what_renamed_rules_make(self):
        words = words_up_to(3, 3)
        chosen = [("c", new, left, right) for new, left, right in
                  list(product(("", "a", "cb"), left_contexts(3), right_contexts(3)))[::41]]
        for names in ["".join(order) for order in permutations("abc")]:
            for rule in chosen:
                other = rules.renamed(3, rule, names)
                self.assertTrue(rules.is_rule(3, other))
                for word in words:
                    self.assertEqual(
                        rules.changed(3, other, rules.renamed_word(3, word, names)),
                        "".join(names["abc".index(letter)] for letter in slow_change(rule, word)))


if __name__ == "__main__":
    unittest.main()
