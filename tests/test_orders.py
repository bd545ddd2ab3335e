"""Orders of rules, needless rules and lists that are used again: [220] to [226], and orders.py of the interface."""

import random
import unittest
from itertools import permutations
from time import process_time
from unittest import mock

from soundturns.errors import BadNumber, NotRule, TooLarge
from soundturns.making import list_machine
from soundturns.orders import (are_alike, change_places, clash, is_steady, needless, orders, same_times, thinned,
                               unsteady)
from soundturns.texts import read_rule, read_rules
from tests.samples import BAD_NUMBERS, first_apart, first_in_order, slow_list, small_rule, some_list, words_up_to
from tests.test_making import BAD_RULES, MANY_STATES, SIXTY_ONE

OF_LISTS = (needless, thinned, orders, is_steady, unsteady, lambda k, rules: same_times(k, rules, 3))
SHORT = words_up_to(2, 6)
# The rule on which the lists of a pair differ acts on no word with less than eight letters.
LATE = (("aaaaaabb", "a > - / a ab _ b ; a > - / ab _ ab b ; a > bb / ab a _ b b", 2),
        ("baaaaaab", "a > ab / # a _ a ab ; a > bb / ab ab _ ab b ; a > - / a a _ a b", 2),
        ("baaabbab", "b > - / a ab _ ab b ; a > ab / b a _ a b ; b > - / a ab _ a b", 1))


def without(rules, index):
    """Return a list without a rule."""
    return rules[:index] + rules[index + 1:]


def slow_needless(k, rules):
    """Return the needless rules by the machines of the lists."""
    return [index for index in range(len(rules)) if list_machine(k, without(rules, index)) == list_machine(k, rules)]


def slow_thinned(k, rules):
    """Return the thinned list, found as [221] says it."""
    while slow_needless(k, rules):
        rules = without(rules, slow_needless(k, rules)[0])
    return rules


def some_small_list(source, k, most):
    """Return a list of small rules."""
    return tuple(small_rule(source, k) for _ in range(source.randint(0, most)))


class AlikeTest(unittest.TestCase):
    def test_lists_that_are_alike(self):
        rule, other = read_rule(2, "a > b / _ b"), read_rule(2, "b > a / a _")
        for one, two in (((), ()), ((rule,), (rule,)), ((rule, other), (rule, other)),
                         ((("a", "a", (), ()),), ()), ((("a", "b", (), ()), rule), (("a", "b", (), ()),)),
                         ((("a", "", (), ("ab", "#")),), (("a", "", (), ("ab", "#")),))):
            self.assertIs(are_alike(2, one, two), True)
            self.assertIs(are_alike(2, two, one), True)

    def test_lists_that_are_not(self):
        one_word = ("a", "b", ("#", "a"), ("a", "#"))
        self.assertIs(are_alike(2, (one_word,), ()), False)
        self.assertEqual([word for word in SHORT if slow_list((one_word,), word) != word], ["aaa"])
        self.assertIs(are_alike(2, (("a", "b", (), ()),), (("b", "a", (), ()),)), False)
        self.assertIs(are_alike(6, (("f", "", (), ()),), ()), False)

    def test_lists_that_differ_at_long_words_only(self):
        for word, text, index in LATE:
            rules = read_rules(2, text)
            other = without(rules, index)
            self.assertEqual(first_apart(rules, other, words_up_to(2, 8)), word)
            self.assertIs(are_alike(2, rules, other), False)
            self.assertNotIn(index, needless(2, rules))

    def test_by_words(self):
        source = random.Random(220)
        found = {True: 0, False: 0}
        for _ in range(400):
            one = some_small_list(source, 2, 3)
            other = some_small_list(source, 2, 2) if source.random() < 0.5 else one[::-1]
            word = first_apart(one, other, SHORT)
            self.assertIs(are_alike(2, one, other), word is None)
            found[word is None] += 1
        self.assertGreater(found[True], 30)
        self.assertGreater(found[False], 30)

    def test_errors_in_order(self):
        bad = (BAD_RULES[0],)
        for k in BAD_NUMBERS:
            with self.assertRaises(BadNumber):
                are_alike(k, bad, bad)
        for one, other, error in ((bad, SIXTY_ONE, NotRule), (SIXTY_ONE, bad, NotRule), ((), bad, NotRule),
                                  ((("a", "", (), ()),) * 9, (), NotRule), (SIXTY_ONE, (), TooLarge),
                                  ((), MANY_STATES, TooLarge), (MANY_STATES, MANY_STATES, TooLarge)):
            with self.assertRaises(error):
                are_alike(2, one, other)

    def test_many_pairs_of_states(self):
        rules = read_rules(2, LATE[0][1])
        with mock.patch("soundturns.equal.MOST_PAIRS", 3):
            for call in (lambda: are_alike(2, rules, rules[:2]), lambda: needless(2, rules),
                         lambda: clash(2, rules[0], rules[2])):
                with self.assertRaises(TooLarge):
                    call()


class ClashTest(unittest.TestCase):
    def test_example(self):
        one, other = read_rule(2, "a > b / _ b"), read_rule(2, "b > a / _ b")
        self.assertEqual((slow_list((one, other), "ab"), slow_list((other, one), "ab")), ("ab", "bb"))
        self.assertEqual(clash(2, one, other), "ab")
        self.assertEqual(clash(2, other, one), "ab")
        self.assertIs(change_places(2, one, other), False)

    def test_rules_that_change_places(self):
        for one, other in (("a > b / _", "a > b / _"), ("a > aa / # _", "b > bb / _ #"), ("a > a / _", "b > - / _"),
                           ("a > - / # _", "a > - / # _")):
            one, other = read_rule(2, one), read_rule(2, other)
            self.assertIs(change_places(2, one, other), True)
            self.assertIsNone(clash(2, one, other))

    def test_by_words(self):
        source = random.Random(221)
        found = {}
        for _ in range(500):
            one, other = small_rule(source, 2), small_rule(source, 2)
            word = first_apart((one, other), (other, one), SHORT)
            self.assertEqual(clash(2, one, other), word)
            self.assertIs(change_places(2, one, other), word is None)
            found[word and len(word)] = found.get(word and len(word), 0) + 1
        self.assertGreater(len(found), 3)

    def test_three_letters(self):
        source = random.Random(222)
        for _ in range(60):
            one, other = small_rule(source, 3), small_rule(source, 3)
            self.assertEqual(clash(3, one, other), first_apart((one, other), (other, one), words_up_to(3, 5)))

    def test_errors_in_order(self):
        rule, bad = ("a", "b", (), ()), BAD_RULES[0]
        for call in (clash, change_places):
            for k in BAD_NUMBERS:
                with self.assertRaises(BadNumber):
                    call(k, bad, bad)
            for one, other in ((bad, rule), (rule, bad), (bad, bad)):
                with self.assertRaises(NotRule):
                    call(2, one, other)


class NeedlessTest(unittest.TestCase):
    def test_ordinary(self):
        for text, indexes, left in (
                ("none", [], "none"), ("a > a / _", [0], "none"), ("a > b / _", [], "a > b / _"),
                ("a > b / _ ; a > - / _", [1], "a > b / _"), ("a > - / _ a ; a > - / _", [0], "a > - / _"),
                ("b > - / # _ # ; b > - / # _ # ; b > a / _", [0, 1], "b > - / # _ # ; b > a / _"),
                ("a > b / a _ # ; a > - / a _ # ; b > - / _ #", [0, 1], "a > - / a _ # ; b > - / _ #"),
                ("b > - / _ ; b > - / _ ; a > - / b _", [0, 1, 2], "b > - / _")):
            rules = read_rules(2, text)
            self.assertEqual(needless(2, rules), indexes, text)
            self.assertEqual(thinned(2, rules), read_rules(2, left), text)

    def test_a_rule_ahead_of_the_one_that_is_left_out(self):
        # The first rule is needed while the second one stands between it and the third one.
        rules = read_rules(3, "a > b / _ ; a > c / _ ; b > a / _")
        self.assertEqual(needless(3, rules), [1])
        self.assertEqual(thinned(3, rules), rules[2:])

    def test_by_machines_and_words(self):
        source = random.Random(223)
        shorter = 0
        for _ in range(250):
            k = source.choice((2, 2, 3))
            rules = some_small_list(source, k, 5)
            self.assertEqual(needless(k, rules), slow_needless(k, rules))
            left = thinned(k, rules)
            self.assertEqual(left, slow_thinned(k, rules))
            self.assertEqual(needless(k, left), [])
            self.assertIsInstance(left, tuple)
            self.assertIs(are_alike(k, left, rules), True)
            self.assertIsNone(first_apart(left, rules, words_up_to(k, 4)))
            shorter += len(left) < len(rules)
        self.assertGreater(shorter, 40)

    def test_eight_rules_of_six_letters(self):
        source = random.Random(224)
        begin = process_time()
        for _ in range(3):
            rules = tuple(small_rule(source, 6) for _ in range(8))
            self.assertEqual(needless(6, rules), slow_needless(6, rules))
            self.assertEqual(needless(6, thinned(6, rules)), [])
            rules = some_list(source, 6, 8)
            self.assertEqual(needless(6, thinned(6, rules)), [])
        self.assertLess(process_time() - begin, 20)


class OrdersTest(unittest.TestCase):
    def test_few_rules(self):
        self.assertEqual(orders(2, ()), [[()]])
        self.assertEqual(orders(2, read_rules(2, "a > b / _")), [[(0,)]])
        self.assertEqual(orders(2, read_rules(2, "a > b / _ b ; b > a / _ b")), [[(0, 1)], [(1, 0)]])
        self.assertEqual(orders(2, read_rules(2, "a > aa / # _ ; b > bb / _ #")), [[(0, 1), (1, 0)]])

    def test_equal_rules(self):
        rules = read_rules(2, "a > b / _ b ; a > b / _ b")
        self.assertEqual(orders(2, rules), [[(0, 1), (1, 0)]])
        self.assertEqual(orders(2, rules + rules), [list(permutations(range(4)))])
        rules = read_rules(2, "a > b / _ b ; b > a / _ b ; a > b / _ b")
        self.assertEqual(orders(2, rules), [[(0, 1, 2), (2, 1, 0)], [(0, 2, 1), (2, 0, 1)], [(1, 0, 2), (1, 2, 0)]])

    def test_classes_in_order(self):
        source = random.Random(225)
        many = {}
        for _ in range(80):
            k = source.choice((2, 3))
            rules = tuple(small_rule(source, k) for _ in range(source.randint(2, 4)))
            found = {}
            for order in permutations(range(len(rules))):
                found.setdefault(list_machine(k, tuple(rules[index] for index in order)), []).append(order)
            self.assertEqual(orders(k, rules), list(found.values()))
            many[len(found)] = True
        self.assertGreater(len(many), 5)

    def test_orders_of_one_class_make_the_same_forms(self):
        rules = read_rules(2, "a > b / _ b ; b > - / a _ ; b > a / # _ ; a > - / b _ #")
        classes = orders(2, rules)
        self.assertEqual(sorted(order for found in classes for order in found), list(permutations(range(4))))
        told = []
        for found in classes:
            forms = {tuple(slow_list([rules[index] for index in order], word) for word in SHORT) for order in found}
            self.assertEqual(len(forms), 1)
            self.assertEqual(found, sorted(found))
            told.extend(forms)
        self.assertEqual(len(set(told)), len(classes))
        self.assertEqual([found[0] for found in classes], sorted(found[0] for found in classes))

    def test_more_than_four_rules(self):
        rule = ("a", "b", (), ())
        for many in (5, 8):
            with self.assertRaises(BadNumber):
                orders(2, (rule,) * many)
        for rules in ((rule,) * 9, (rule,) * 4 + (BAD_RULES[0],)):
            with self.assertRaises(NotRule):
                orders(2, rules)
        self.assertEqual(len(orders(2, (rule,) * 4)), 1)

    def test_four_rules_of_six_letters(self):
        source = random.Random(226)
        begin = process_time()
        for _ in range(3):
            rules = tuple(small_rule(source, 6) for _ in range(4))
            self.assertEqual(sum(len(found) for found in orders(6, rules)), 24)
        self.assertLess(process_time() - begin, 15)


class SteadyTest(unittest.TestCase):
    def test_ordinary(self):
        for text, word in (("none", None), ("a > b / _", None), ("a > b / _ b", "aab"), ("a > aa / _", "a"),
                           ("a > b / _ ; b > a / _", None), ("a > - / _", None), ("a > - / _ a", None),
                           ("a > - / # _", "aa"), ("a > b / # _ ; b > - / # _", "aa")):
            self.assertEqual(unsteady(2, read_rules(2, text)), word, text)
            self.assertIs(is_steady(2, read_rules(2, text)), word is None)

    def test_by_words(self):
        source = random.Random(227)
        found = {}
        for _ in range(400):
            rules = some_small_list(source, 2, 3)
            word = first_apart(rules, rules + rules, SHORT)
            self.assertEqual(unsteady(2, rules), word)
            self.assertIs(is_steady(2, rules), word is None)
            found[word] = True
        self.assertGreater(len(found), 5)

    def test_long_words(self):
        source = random.Random(228)
        longest = 0
        for _ in range(150):
            rules = some_list(source, 2, 3)
            word = unsteady(2, rules)
            expected = first_apart(rules, rules + rules, words_up_to(2, 7))
            if word is None or len(word) <= 7:
                self.assertEqual(word, expected)
                longest = max(longest, len(word or ""))
            else:
                self.assertIsNone(expected)
                self.assertNotEqual(slow_list(rules + rules, word), slow_list(rules, word))
        self.assertGreater(longest, 4)


class SameTimesTest(unittest.TestCase):
    def test_ordinary(self):
        for k, text, expected in (
                (2, "none", (0, 1)), (2, "a > a / _", (0, 1)), (2, "a > b / _", (1, 2)), (2, "a > b / _ b", None),
                (2, "a > - / # _", None), (2, "a > b / # _ ; b > - / # _ #", (1, 2)),
                (3, "a > b / _ ; b > c / _ ; c > a / _", (1, 2)), (2, "a > aa / _ #", None)):
            for most in (1, 2, 3, 5, 6):
                want = expected if expected is not None and expected[1] <= most else None
                self.assertEqual(same_times(k, read_rules(k, text), most), want, (text, most))

    def test_turning_lists(self):
        # c stands aside while the others change places: both lists are as they were behind two and three uses.
        two = read_rules(3, "a > ca / _ ; b > a / _ ; a > b / c _ ; c > - / _")
        self.assertIsNone(same_times(3, two, 1))
        self.assertEqual([slow_list(two, letter) for letter in "abc"], ["b", "a", ""])
        self.assertEqual([same_times(3, two, most) for most in (2, 3, 6)], [None, (1, 3), (1, 3)])
        three = read_rules(4, "a > da / _ ; c > a / _ ; b > c / _ ; a > b / d _ ; d > - / _")
        self.assertEqual([slow_list(three, letter) for letter in "abcd"], ["b", "c", "a", ""])
        self.assertEqual([same_times(4, three, most) for most in range(1, 7)],
                         [None, None, None, (1, 4), (1, 4), (1, 4)])

    def test_by_words(self):
        source = random.Random(229)
        found = {}
        for _ in range(300):
            rules = some_small_list(source, 2, 2)
            words = [SHORT]
            for _ in range(5):
                words.append([slow_list(rules, word) for word in words[-1]])
            expected = first_in_order([])
            for times in range(5, 0, -1):
                if words[times] in words[:times]:
                    expected = (words.index(words[times]), times)
            try:
                told = same_times(2, rules, 5)
            except TooLarge:
                continue
            if told is not None or expected is None:
                self.assertEqual(told, expected, rules)
                found[told] = found.get(told, 0) + 1
        self.assertGreater(found[0, 1], 20)
        self.assertGreater(found[1, 2], 20)
        self.assertGreater(found[None], 20)

    def test_numbers_and_errors(self):
        rules = (("a", "b", (), ()),)
        for most in (0, 7, -1, 10 ** 5000, -10 ** 5000):
            with self.assertRaises(BadNumber):
                same_times(2, rules, most)
            with self.assertRaises(NotRule):
                same_times(2, (BAD_RULES[0],), most)
            # The number is looked at before anything is made.
            with self.assertRaises(BadNumber):
                same_times(2, MANY_STATES, most)
        self.assertIsNone(same_times(2, rules, 1))
        self.assertEqual(same_times(2, rules, 6), (1, 2))

    def test_lists_that_write_more_and_more(self):
        rules = (("a", "aa", (), ()),)
        self.assertIsNone(same_times(2, rules, 5))
        with self.assertRaises(TooLarge):
            same_times(2, rules, 6)


class ErrorsTest(unittest.TestCase):
    def test_errors_in_order(self):
        for call in OF_LISTS:
            for k in BAD_NUMBERS:
                with self.assertRaises(BadNumber):
                    call(k, (BAD_RULES[0],))
            for rule in BAD_RULES:
                with self.assertRaises(NotRule):
                    call(2, (rule,))
            with self.assertRaises(NotRule):
                call(2, (("a", "b", (), ()),) * 9)
        for call in (needless, thinned, is_steady, unsteady, lambda k, rules: same_times(k, rules, 1)):
            for rules in (MANY_STATES, SIXTY_ONE):
                with self.assertRaises(TooLarge):
                    call(2, rules)
        with self.assertRaises(TooLarge):
            orders(2, (("a", "aaa", (), ()),) * 4)

    def test_no_list_is_shared(self):
        rules = read_rules(2, "a > b / _ ; a > b / _")
        for call in (needless, orders):
            found = call(2, rules)
            found.append("x")
            self.assertNotEqual(call(2, rules), found)
        orders(2, rules)[0].append("x")
        self.assertEqual(orders(2, rules), [[(0, 1), (1, 0)]])


if __name__ == "__main__":
    unittest.main()
