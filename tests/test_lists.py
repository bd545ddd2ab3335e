"""Lists of rules and their forms: [24], [40] to [46] and [66], and lists.py of the interface."""

import unittest
from itertools import permutations

from soundturns import lists
from soundturns.errors import BadNumber, NotRule, NotWord, TooLarge
from soundturns.texts import read_rules
from tests.samples import BAD_NUMBERS, all_rules, slow_change, slow_indexes, words_up_to

EXAMPLE = read_rules(2, "a > b / _ b ; b > - / b _ #")
BROKEN = ("a", "bbbb", (), ())
NOTHING = ("a", "a", (), ())
DOUBLE = ("a", "aa", (), ())
TRIPLE = ("a", "aaa", (), ())
LONGER = ("a", "aaa", ("#",), ())
# Each use of this list takes away the first letter, so a word of n letters is settled behind n uses.
SHORTER = (("a", "", ("#",), ()),)
# This one takes away the first letter `a` by two uses: it becomes `c`, then `b`, then nothing.
SLOWLY = read_rules(3, "b > - / # _ ; c > b / # _ ; a > c / # _")
# This one exchanges two letters, for ever.
SWAP = read_rules(3, "a > c / _ ; b > a / _ ; c > b / _")


def few_lists(step):
    """Return some lists of one to three rules of two letters."""
    rules = all_rules(2)
    return [tuple(rules[(at + 907 * more) % len(rules)] for more in range(1 + at % 3))
            for at in range(0, len(rules), step)]


def slow_steps(rules, word):
    """Return the steps of a word, by the slow way for each rule."""
    steps = [word]
    for rule in rules:
        steps.append(slow_change(rule, steps[-1]))
    return steps


class FormTest(unittest.TestCase):
    def test_example(self):
        self.assertEqual(lists.steps_of(2, EXAMPLE, "aab"), ["aab", "abb", "ab"])
        self.assertEqual(lists.form_of(2, EXAMPLE, "aab"), "ab")
        self.assertEqual(lists.acting(2, EXAMPLE, "aab"), [0, 1])
        self.assertEqual(lists.acting(2, EXAMPLE, "ba"), [])
        self.assertEqual(lists.acting(2, EXAMPLE, "bb"), [1])
        self.assertEqual(lists.acting(2, EXAMPLE, "aba"), [0])

    def test_the_empty_list(self):
        for word in words_up_to(2, 4) + ["ab" * 30]:
            self.assertEqual(lists.form_of(2, (), word), word)
            self.assertEqual(lists.steps_of(2, (), word), [word])
            self.assertEqual(lists.acting(2, (), word), [])
            self.assertIs(lists.is_kept(2, (), word), True)
            self.assertEqual(lists.settled(2, (), word), (0, word))

    def test_against_a_slow_way(self):
        for rules in few_lists(71):
            for word in words_up_to(2, 4):
                steps = slow_steps(rules, word)
                self.assertEqual(lists.steps_of(2, rules, word), steps)
                self.assertEqual(lists.form_of(2, rules, word), steps[-1])
                self.assertIs(lists.is_kept(2, rules, word), steps[-1] == word)
                acting = [at for at, rule in enumerate(rules) if slow_indexes(rule, steps[at])]
                self.assertEqual(lists.acting(2, rules, word), acting)

    def test_a_rule_may_act_and_change_nothing(self):
        self.assertEqual(lists.acting(2, (NOTHING,), "ba"), [0])
        self.assertIs(lists.is_kept(2, (NOTHING,), "ba"), True)

    def test_two_lists_one_behind_the_other(self):
        for one, other in zip(few_lists(701), few_lists(701)[::-1]):
            for word in words_up_to(2, 4):
                between = lists.form_of(2, one, word)
                self.assertEqual(lists.form_of(2, one + other, word), lists.form_of(2, other, between))

    def test_results_share_no_list(self):
        lists.steps_of(2, EXAMPLE, "aab").clear()
        lists.acting(2, EXAMPLE, "aab").clear()
        self.assertEqual(lists.steps_of(2, EXAMPLE, "aab"), ["aab", "abb", "ab"])
        self.assertEqual(lists.acting(2, EXAMPLE, "aab"), [0, 1])


class LargeTest(unittest.TestCase):
    CALLS = (lists.form_of, lists.steps_of, lists.acting, lists.is_kept, lists.settled)

    def test_forms_have_at_most_three_times_as_many_letters_for_each_rule(self):
        for many in range(5):
            for length in (0, 1, 2, 7, 24):
                told = lists.form_of(2, (TRIPLE,) * many, "a" * length)
                self.assertEqual(told, "a" * (3 ** many * length))

    def test_exactly_two_thousand_letters(self):
        # 60 letters become 120, 122, 124, 125, and these are doubled four times.
        rules = (DOUBLE, LONGER, LONGER, ("a", "aa", ("#",), ())) + (DOUBLE,) * 4
        word = "a" * 60
        self.assertEqual(lists.form_of(2, rules, word), "a" * 2000)
        self.assertEqual([len(step) for step in lists.steps_of(2, rules, word)],
                         [60, 120, 122, 124, 125, 250, 500, 1000, 2000])
        self.assertEqual(lists.acting(2, rules, word), list(range(8)))
        self.assertIs(lists.is_kept(2, rules, word), False)

    def test_one_letter_more_than_two_thousand(self):
        # 56 letters become 111, 333, 666, 667, 2001.
        rules = (("a", "aa", ("a",), ()), TRIPLE, DOUBLE, ("a", "aa", ("#",), ()), TRIPLE)
        word = "a" * 56
        self.assertEqual([len(step) for step in slow_steps(rules, word)], [56, 111, 333, 666, 667, 2001])
        for call in self.CALLS:
            with self.assertRaises(TooLarge):
                call(2, rules, word)

    def test_a_word_on_the_way_is_too_large(self):
        rules = (TRIPLE,) * 4 + (("a", "", (), ()),)
        for call in self.CALLS:
            with self.assertRaises(TooLarge):
                call(2, rules, "a" * 30)
        self.assertEqual(lists.form_of(2, rules, "a" * 24), "")

    def test_only_the_last_word_is_too_large(self):
        rules = (TRIPLE,) * 4
        self.assertEqual(len(slow_steps(rules, "a" * 25)[-2]), 675)
        for call in self.CALLS:
            with self.assertRaises(TooLarge):
                call(2, rules, "a" * 25)
        self.assertEqual(lists.acting(2, rules, "a" * 24), [0, 1, 2, 3])


class ErrorTest(unittest.TestCase):
    CALLS = LargeTest.CALLS

    def test_order(self):
        large = (TRIPLE,) * 8
        for call in self.CALLS:
            for k in BAD_NUMBERS:
                with self.assertRaises(BadNumber):
                    call(k, (BROKEN,), "x")
            for rules in ((BROKEN,), (NOTHING, BROKEN), (NOTHING,) * 9, large + (TRIPLE,)):
                with self.assertRaises(NotRule):
                    call(2, rules, "x")
            for word in ("x", "c", "a" * 61):
                with self.assertRaises(NotWord):
                    call(2, large, word)
            with self.assertRaises(TooLarge):
                call(2, large, "a" * 60)

    def test_order_of_settled(self):
        large = (TRIPLE,) * 8
        for most in (-1, 101, -10 ** 5000, 10 ** 5000):
            with self.assertRaises(BadNumber):
                lists.settled(2, large, "a" * 60, most=most)
            with self.assertRaises(NotWord):
                lists.settled(2, large, "a" * 61, most=most)
            with self.assertRaises(NotRule):
                lists.settled(2, (BROKEN,), "a" * 61, most=most)

    def test_order_of_turned_and_renamed(self):
        for k in BAD_NUMBERS:
            for rules in ((), (BROKEN,)):
                with self.assertRaises(BadNumber):
                    lists.turned_rules(k, rules)
                with self.assertRaises(BadNumber):
                    lists.renamed_rules(k, rules, "x")
        for rules in ((BROKEN,), (NOTHING, BROKEN), (NOTHING,) * 9):
            with self.assertRaises(NotRule):
                lists.turned_rules(2, rules)
            with self.assertRaises(NotRule):
                lists.renamed_rules(2, rules, "x")
        for rules in ((), EXAMPLE):
            for names in ("", "a", "aa", "abc", "bc", "ab "):
                with self.assertRaises(NotWord):
                    lists.renamed_rules(2, rules, names)


class TurnTest(unittest.TestCase):
    def test_examples(self):
        self.assertEqual(lists.turned_rules(2, EXAMPLE), read_rules(2, "a > b / b _ ; b > - / # _ b"))
        self.assertEqual(lists.renamed_rules(2, EXAMPLE, "ba"),
                         read_rules(2, "b > a / _ a ; a > - / a _ #"))
        self.assertEqual(lists.turned_rules(2, ()), ())
        self.assertEqual(lists.renamed_rules(3, (), "bca"), ())
        self.assertEqual(lists.renamed_rules(3, (("a", "bc", ("ab",), ("bc", "#")),), "cba"),
                         (("c", "ba", ("bc",), ("ab", "#")),))

    def test_what_lists_turned_about_make(self):
        for rules in few_lists(331):
            about = lists.turned_rules(2, rules)
            self.assertEqual(lists.turned_rules(2, about), rules)
            for word in words_up_to(2, 4):
                self.assertEqual(lists.form_of(2, about, word[::-1]),
                                 lists.form_of(2, rules, word)[::-1])

    def test_what_renamed_lists_make(self):
        table = str.maketrans("ab", "ba")
        for rules in few_lists(331):
            other = lists.renamed_rules(2, rules, "ba")
            for word in words_up_to(2, 4):
                self.assertEqual(lists.form_of(2, other, word.translate(table)),
                                 lists.form_of(2, rules, word).translate(table))

    def test_each_arrangement_of_three_letters(self):
        rules = read_rules(3, "a > bc / _ ab # ; c > - / ac _ ; b > ac / # a _ bc")
        for order in permutations("abc"):
            names = "".join(order)
            table = str.maketrans("abc", names)
            other = lists.renamed_rules(3, rules, names)
            for word in words_up_to(3, 4):
                self.assertEqual(lists.form_of(3, other, word.translate(table)),
                                 lists.form_of(3, rules, word).translate(table))


class SettledTest(unittest.TestCase):
    def test_settled_at_once(self):
        self.assertEqual(lists.settled(2, EXAMPLE, "ba"), (0, "ba"))
        self.assertEqual(lists.settled(2, EXAMPLE, ""), (0, ""))
        self.assertEqual(lists.settled(2, EXAMPLE, "ba", most=0), (0, "ba"))

    def test_settled_later(self):
        self.assertEqual(lists.settled(2, EXAMPLE, "aab"), (2, "b"))
        for length in range(12):
            self.assertEqual(lists.settled(2, SHORTER, "a" * length), (length, ""))

    def test_the_bound(self):
        for length in (1, 2, 5, 19, 20, 60):
            for most in (length - 1, length, length + 1):
                told = lists.settled(2, SHORTER, "a" * length, most=most)
                self.assertEqual(told, (length, "") if most >= length else None)

    def test_no_bound_is_twenty(self):
        self.assertEqual(lists.settled(2, SHORTER, "a" * 20), (20, ""))
        self.assertIsNone(lists.settled(2, SHORTER, "a" * 21))

    def test_a_hundred_times(self):
        self.assertEqual(lists.settled(3, SLOWLY, "aaa", most=7), (7, ""))
        self.assertIsNone(lists.settled(3, SLOWLY, "aaa", most=6))
        self.assertEqual(lists.settled(3, SLOWLY, "c" + "a" * 49, most=100), (100, ""))
        self.assertIsNone(lists.settled(3, SLOWLY, "c" + "a" * 49, most=99))
        self.assertIsNone(lists.settled(3, SLOWLY, "a" * 50, most=100))

    def test_words_that_never_settle(self):
        for most in (0, 1, 2, 3, 20, 99, 100):
            self.assertIsNone(lists.settled(3, SWAP, "a", most=most))
            self.assertIsNone(lists.settled(3, SWAP, "ab" * 30, most=most))
        self.assertIsNone(lists.settled(3, SWAP, "b"))

    def test_words_that_grow(self):
        rules = (("a", "aa", ("#",), ()),)
        self.assertIsNone(lists.settled(2, rules, "a" * 60, most=100))
        triple = (TRIPLE,)
        self.assertIsNone(lists.settled(2, triple, "a", most=5))
        # Behind the sixth use the word has 729 letters; the use that finds out about it makes 2187.
        with self.assertRaises(TooLarge):
            lists.settled(2, triple, "a", most=6)
        with self.assertRaises(TooLarge):
            lists.settled(2, triple, "a")
        with self.assertRaises(TooLarge):
            lists.settled(2, (TRIPLE,) * 7, "a", most=0)

    def test_most_out_of_range(self):
        for most in (-1, 101, -100, 10 ** 5000):
            with self.assertRaises(BadNumber):
                lists.settled(2, EXAMPLE, "ba", most=most)


if __name__ == "__main__":
    unittest.main()
