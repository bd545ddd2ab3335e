"""Rules that are found: [240] to [247], and finding.py of the interface."""

import random
import unittest
from itertools import product
from time import process_time

from soundturns.errors import BadNumber, NoAnswer, NotRule, NotWord, TooLarge
from soundturns.finding import explaining, explains, first_list, first_question, first_rule, simple_rules
from soundturns.lists import form_of
from soundturns.making import list_machine
from soundturns.rules import is_rule
from tests.samples import BAD_NUMBERS, LETTERS, slow_change, slow_list, some_list, some_rule, some_word, words_up_to
from tests.test_making import BAD_RULES

BAD_LETTERS = BAD_NUMBERS + (4, 5, 6)
BAD_N = (-1, 3, 4, 100, 10 ** 5000, -10 ** 5000)
BAD_WORDS = ("c", "a" * 61, "A", "a b", "-")
OF_PAIRS = (explaining, first_rule, first_question, lambda k, n, pairs: first_list(k, n, 1, pairs))
EXAMPLE = [("ab", "bb"), ("ba", "ba")]


def slow_contexts(k):
    """Return the contexts of simple rules in the order of [240]."""
    sets = sorted(("".join(letter for letter in LETTERS[:k] if letter in found)
                   for found in product(*(("", letter) for letter in LETTERS[:k]))
                   for found in ["".join(found)] if found), key=lambda place: (len(place), place))
    return [(), ("#",)] + [(place,) for place in sets]


def slow_rules(k, n):
    """Return the simple rules, sorted by the keys that [240] tells."""
    contexts = slow_contexts(k)
    rules = [rule for rule in product(LETTERS[:k], words_up_to(k, n), contexts, contexts) if rule[0] != rule[1]]
    return sorted(rules, key=lambda rule: (rule[0], len(rule[1]), rule[1], contexts.index(rule[2]),
                                           contexts.index(rule[3])))


def slow_explaining(rules, pairs):
    """Return those of some rules that explain pairs."""
    return [rule for rule in rules if all(slow_change(rule, word) == made for word, made in pairs)]


def pairs_by(rules, words):
    """Return the pairs of words and their forms, without those whose forms are too long to be handed in."""
    return [(word, slow_list(rules, word)) for word in words if len(slow_list(rules, word)) <= 60]


class SimpleRulesTest(unittest.TestCase):
    def test_order(self):
        for k, n in product((2, 3), (0, 1, 2)):
            self.assertEqual(simple_rules(k, n), slow_rules(k, n))

    def test_the_first_ones(self):
        found = simple_rules(2, 1)
        sides = [(), ("#",), ("a",), ("b",), ("ab",)]
        self.assertEqual(found[:25], [("a", "", left, right) for left in sides for right in sides])
        self.assertEqual(found[25:50], [("a", "b", left, right) for left in sides for right in sides])
        self.assertEqual(found[50], ("b", "", (), ()))
        self.assertEqual([rule[3] for rule in simple_rules(3, 0)[:9]],
                         [(), ("#",), ("a",), ("b",), ("c",), ("ab",), ("ac",), ("bc",), ("abc",)])
        self.assertEqual([rule[1] for rule in simple_rules(2, 2)[:150:25]], ["", "b", "aa", "ab", "ba", "bb"])

    def test_numbers(self):
        for k, n, many in ((2, 0, 50), (2, 1, 100), (2, 2, 300), (3, 0, 243), (3, 1, 729), (3, 2, 2916)):
            words = len(words_up_to(k, n)) - (1 if n else 0)
            self.assertEqual(many, k * words * (2 ** k + 1) ** 2)
            found = simple_rules(k, n)
            self.assertEqual((len(found), len(set(found))), (many, many))
            for rule in found:
                self.assertIs(is_rule(k, rule), True)
                self.assertLessEqual(max(len(rule[2]), len(rule[3])), 1)
                self.assertLessEqual(len(rule[1]), n)
                self.assertNotEqual(rule[0], rule[1])

    def test_errors(self):
        for k in BAD_LETTERS:
            with self.assertRaises(BadNumber):
                simple_rules(k, 1)
        for k, n in product((2, 3), BAD_N):
            with self.assertRaises(BadNumber):
                simple_rules(k, n)

    def test_no_list_is_shared(self):
        simple_rules(2, 0).append("x")
        self.assertEqual(len(simple_rules(2, 0)), 50)


class ExplainsTest(unittest.TestCase):
    def test_ordinary(self):
        rules = (("a", "b", (), ("b",)),)
        for pairs, expected in ((EXAMPLE, True), ([], True), ([("ab", "bb"), ("ba", "bb")], False), ([("", "")], True),
                                ([("ab", "bb"), ("ab", "bb")], True), ([("ab", "bb"), ("ab", "ab")], False),
                                ([("", "a")], False), ([("aab", "abb")], True), ([("aab", "bbb")], False)):
            self.assertIs(explains(2, rules, pairs), expected, pairs)
        self.assertIs(explains(2, (), [("ab", "ab"), ("", "")]), True)
        self.assertIs(explains(2, (), [("ab", "ab"), ("a", "")]), False)

    def test_some_lists(self):
        source = random.Random(241)
        for _ in range(200):
            k = source.randint(2, 6)
            rules = some_list(source, k, 4)
            pairs = pairs_by(rules, [some_word(source, k, 8) for _ in range(5)])
            self.assertIs(explains(k, rules, pairs), True)
            if pairs:
                at = source.randrange(len(pairs))
                pairs[at] = (pairs[at][0], pairs[at][1] + "a")
                self.assertIs(explains(k, rules, pairs), False)

    def test_long_words(self):
        source = random.Random(2411)
        for _ in range(150):
            k = source.randint(2, 4)
            rules = tuple(some_rule(source, k) for _ in range(source.randint(1, 4)))
            pairs = pairs_by(rules, ["".join(source.choice(LETTERS[:k]) for _ in range(length))
                                     for length in (31, 32, 33, 34, 35, 36, 59, 60)])
            self.assertIs(explains(k, rules, pairs), True)
            for word, made in pairs:
                self.assertIs(explains(k, rules, [(word, made)]), True)

    def test_long_words_on_the_way(self):
        grow = (("a", "aaa", (), ("a",)), ("a", "aaa", ("a",), ()))
        for last, made in ((("a", "", (), ()), ""), (("a", "", ("a",), ()), "a"), (("a", "", (), ("ab",)), "a"),
                           (("a", "b", (), ()), None)):
            rules = grow * 2 + (last,)
            self.assertGreater(len(slow_list(rules[:4], "a" * 60)), 4000)
            self.assertIs(explains(2, rules, [("a" * 60, "a" if made is None else made)]), made is not None)
            with self.assertRaises(TooLarge):
                form_of(2, rules, "a" * 60)
        # Of the letters of all words that are made only those at the right end stay.
        rules = grow + (("b", "ab", (), ()), ("a", "bba", ("b",), ("a",)), ("b", "", ("ab",), ("ab",)),
                        ("a", "", (), ()))
        for word in ("a" * 60, "ab" * 30, "b" * 60, "aab" * 20, "abbb" * 15):
            self.assertLessEqual(len(slow_list(rules, word)), 60)
            self.assertIs(explains(2, rules, [(word, slow_list(rules, word))]), True)
            self.assertIs(explains(2, rules, [(word, slow_list(rules, word) + "b")]), False)

    def test_speed(self):
        begin = process_time()
        rules = (("a", "aaa", (), ("a",)), ("a", "aaa", ("a",), ())) * 3 + (("a", "aba", (), ()), ("a", "", (), ()))
        self.assertIs(explains(2, rules, [("a" * 60, "b" * 60)] * 40), False)
        rules = rules[:6] + (("a", "aaa", ("a",), ()), ("a", "", (), ()))
        self.assertIs(explains(2, rules, [("a" * (21 + length), "") for length in range(40)]), True)
        self.assertLess(process_time() - begin, 10)

    def test_errors_in_order(self):
        rules = (("a", "b", (), ("b",)),)
        for k in BAD_NUMBERS:
            with self.assertRaises(BadNumber):
                explains(k, (BAD_RULES[0],), [("x", "x")])
        for bad in ((BAD_RULES[0],), rules * 9):
            for pairs in ([("x", "x")], [("a", "a")] * 41, []):
                with self.assertRaises(NotRule):
                    explains(2, bad, pairs)
        for word in BAD_WORDS:
            for pairs in ([(word, "a")], [("a", word)], [("a", "b"), (word, "")], [("", "")] * 41 + [("", word)]):
                with self.assertRaises(NotWord):
                    explains(2, rules, pairs)
        self.assertIs(explains(2, rules, [("ab", "bb")] * 40), True)
        with self.assertRaises(TooLarge):
            explains(2, rules, [("ab", "bb")] * 41)
        self.assertIs(explains(6, (("f", "e", (), ()),), [("f", "e")]), True)


class ExplainingTest(unittest.TestCase):
    def test_example(self):
        self.assertEqual(first_rule(2, 1, EXAMPLE), ("a", "b", (), ("b",)))
        self.assertIn(("a", "b", ("#",), ()), explaining(2, 1, EXAMPLE))
        self.assertEqual(first_question(2, 1, EXAMPLE), "a")

    def test_no_pairs(self):
        for k, n in product((2, 3), (0, 1, 2)):
            self.assertEqual(explaining(k, n, []), simple_rules(k, n))
            self.assertEqual(first_rule(k, n, []), ("a", "", (), ()))

    def test_all_pairs_of_short_words(self):
        rules = simple_rules(2, 2)
        words = words_up_to(2, 3)
        for word, made in product(words, words_up_to(2, 4)):
            found = slow_explaining(rules, [(word, made)])
            self.assertEqual(explaining(2, 2, [(word, made)]), found, (word, made))
            self.assertEqual(first_rule(2, 2, [(word, made)]), found[0] if found else None)

    def test_several_pairs(self):
        source = random.Random(242)
        many = {}
        for _ in range(120):
            k, n = source.choice((2, 2, 3)), source.choice((0, 1, 2))
            rules = simple_rules(k, n)
            chosen = source.choice(rules)
            pairs = pairs_by((chosen,), [some_word(source, k, 7) for _ in range(source.randint(1, 4))])
            if source.random() < 0.2:
                pairs.append(("ab", some_word(source, k, 3)))
            found = slow_explaining(rules, pairs)
            self.assertEqual(explaining(k, n, pairs), found)
            self.assertEqual(first_rule(k, n, pairs), found[0] if found else None)
            many[min(len(found), 3)] = True
        self.assertEqual(sorted(many), [0, 1, 2, 3])

    def test_words_twice_and_contradictions(self):
        self.assertEqual(explaining(2, 1, EXAMPLE * 20), explaining(2, 1, EXAMPLE))
        self.assertEqual(explaining(2, 1, EXAMPLE + [("ab", "ab")]), [])
        self.assertIsNone(first_rule(2, 2, [("a", "a"), ("a", "b")]))
        self.assertEqual(explaining(2, 0, [("ab", "bb")]), [])
        self.assertEqual(explaining(2, 1, [("", "a")]), [])

    def test_speed(self):
        source = random.Random(243)
        begin = process_time()
        for letters in ("abc", "c"):
            words = ["".join(source.choice(letters) for _ in range(60)) for _ in range(40)]
            for call in (explaining, first_rule):
                call(3, 2, [(word, word) for word in words])
            first_question(3, 2, [(word, word) for word in words])
        self.assertLess(process_time() - begin, 10)

    def test_no_list_is_shared(self):
        explaining(2, 1, []).append("x")
        self.assertEqual(len(explaining(2, 1, [])), 100)
        pairs = list(EXAMPLE)
        for call in OF_PAIRS:
            call(2, 1, pairs)
        self.assertEqual(pairs, EXAMPLE)


class FirstListTest(unittest.TestCase):
    def test_ordinary(self):
        for n, m, pairs, expected in (
                (1, 0, [], ()), (1, 1, [], ()), (1, 2, [("ab", "ab")], ()), (1, 0, EXAMPLE, None),
                (1, 1, EXAMPLE, (("a", "b", (), ("b",)),)), (1, 2, EXAMPLE, (("a", "b", (), ("b",)),)),
                (0, 1, EXAMPLE, None), (1, 1, [("ab", "ba")], None), (2, 2, [("a", "a"), ("a", "b")], None),
                (1, 2, [("ab", "ba")], (("a", "b", (), ()), ("b", "a", (), ("#",)))),
                (0, 2, [("ab", ""), ("aabb", "")], (("a", "", (), ()), ("b", "", (), ()))), (0, 2, EXAMPLE, None)):
            self.assertEqual(first_list(2, n, m, pairs), expected, (n, m, pairs))
        self.assertEqual(first_list(3, 1, 1, [("c", "b")]), (("c", "b", (), ()),))
        self.assertIsNone(first_list(3, 2, 1, [("abc", "bca")]))
        self.assertEqual(first_list(3, 0, 0, [("abc", "abc")]), ())

    def test_the_first_list_of_two(self):
        source = random.Random(2430)
        rules = simple_rules(2, 1)
        found = 0
        for _ in range(60):
            chosen = (source.choice(rules), source.choice(rules))
            pairs = pairs_by(chosen, [some_word(source, 2, 6) for _ in range(4)])
            told = first_list(2, 1, 2, pairs)
            self.assertIs(explains(2, told, pairs), True)
            if len(told) == 2:
                found += 1
                expected = next(pair for pair in product(rules, rules)
                                if all(slow_list(pair, word) == made for word, made in pairs))
                self.assertEqual(told, expected)
                self.assertIsNone(first_list(2, 1, 1, pairs))
        self.assertGreater(found, 10)

    def test_without_a_list(self):
        rules = simple_rules(2, 0)
        for pairs in ([("ab", "ba")], [("aab", "b"), ("abb", "a")], [("abab", "aa"), ("b", "b"), ("a", "")]):
            expected = [pair for pair in product(rules, rules)
                        if all(slow_list(pair, word) == made for word, made in pairs)]
            self.assertEqual(first_list(2, 0, 2, pairs), expected[0] if expected else None)

    def test_speed(self):
        source = random.Random(244)
        begin = process_time()
        words = ["".join(source.choice("ab") for _ in range(60)) for _ in range(40)]
        self.assertIsNone(first_list(2, 2, 2, [(word, word[::-1]) for word in words]))
        self.assertIsNone(first_list(2, 2, 2, [("b" * many, "b" * many) for many in range(21, 60)]
                                     + [("b" * 30 + "a" * 30, "ab" * 20)]))
        self.assertIsNone(first_list(2, 2, 2, [("ab" * many, "ba" * many) for many in range(30)] + [("a", "aab" * 20)]))
        self.assertLess(process_time() - begin, 15)

    def test_numbers_of_rules(self):
        for m in (-1, 3, 4, 10 ** 5000, -10 ** 5000):
            for k in (2, 3):
                with self.assertRaises(BadNumber):
                    first_list(k, 1, m, [("x", "x")])
        for pairs in ([], [("a", "a")], [("x", "x")], [("", "")] * 41):
            with self.assertRaises(BadNumber):
                first_list(3, 1, 2, pairs)
        for n in BAD_N:
            for m in (0, 1, 2):
                with self.assertRaises(BadNumber):
                    first_list(2, n, m, [("x", "x")])
        for k in BAD_LETTERS:
            for m in (0, 1, 2):
                with self.assertRaises(BadNumber):
                    first_list(k, 1, m, [("x", "x")])
        for m in (0, 1, 2):
            with self.assertRaises(NotWord):
                first_list(2, 1, m, [("a", "a")] * 41 + [("a", "x")])
            with self.assertRaises(TooLarge):
                first_list(2, 1, m, [("a", "a")] * 41)
            self.assertEqual(first_list(2, 1, m, [("a", "a")] * 40), ())


class FirstQuestionTest(unittest.TestCase):
    def test_by_words(self):
        source = random.Random(2440)
        words = words_up_to(2, 5)
        told = {}
        for _ in range(150):
            rules = simple_rules(2, source.choice((0, 1, 2)))
            n = max(len(rule[1]) for rule in rules)
            pairs = pairs_by((source.choice(rules),), [some_word(source, 2, 5) for _ in range(source.randint(0, 5))])
            found = slow_explaining(rules, pairs)
            expected = next((word for word in words
                             if any(slow_change(rule, word) != slow_change(found[0], word) for rule in found)), None)
            question = first_question(2, n, pairs)
            self.assertEqual(question, expected)
            if question is not None:
                answered = pairs + [(question, slow_change(found[0], question))]
                if len(answered[-1][1]) <= 60:
                    self.assertLess(len(explaining(2, n, answered)), len(found))
            told[question] = True
        self.assertGreater(len(told), 6)
        self.assertIn(None, told)

    def test_rules_that_are_alike_are_not_asked_for(self):
        # Both take away an `a` beside another one.
        one, other = ("a", "", (), ("a",)), ("a", "", ("a",), ())
        self.assertEqual(list_machine(2, (one,)), list_machine(2, (other,)))
        found = explaining(2, 1, pairs_by((one,), words_up_to(2, 4)))
        self.assertEqual(found[:1], [one])
        self.assertIn(other, found)
        self.assertIsNone(first_question(2, 1, pairs_by((one,), words_up_to(2, 4))))

    def test_short_words_tell_simple_rules_apart(self):
        for k in (2, 3):
            words = words_up_to(k, 3)
            alike = {}
            for rule in simple_rules(k, 2):
                forms = tuple(slow_change(rule, word) for word in words)
                alike.setdefault(forms, []).append(list_machine(k, (rule,)))
            self.assertGreater(len(alike), 280)
            for machines in alike.values():
                self.assertEqual(machines, machines[:1] * len(machines))

    def check_questions(self, k, n, rule):
        """Answer questions by a rule until there is none; check that the first rule is alike with it."""
        pairs = []
        left = len(simple_rules(k, n)) + 1
        while True:
            found = explaining(k, n, pairs)
            self.assertLess(len(found), left)
            left = len(found)
            word = first_question(k, n, pairs)
            if word is None:
                break
            pairs.append((word, slow_change(rule, word)))
        self.assertEqual(list_machine(k, (first_rule(k, n, pairs),)), list_machine(k, (rule,)))
        self.assertEqual(len({list_machine(k, (found,)) for found in explaining(k, n, pairs)}), 1)

    def test_questions_one_after_another(self):
        for rule in simple_rules(2, 1)[::2]:
            self.check_questions(2, 1, rule)
        source = random.Random(245)
        for rule in source.sample(simple_rules(2, 2), 20):
            self.check_questions(2, 2, rule)
        for rule in source.sample(simple_rules(3, 2), 8):
            self.check_questions(3, 2, rule)

    def test_no_answer(self):
        for pairs in ([("a", "b"), ("a", "a")], [("", "a")], [("ab", "ba")]):
            with self.assertRaises(NoAnswer):
                first_question(2, 2, pairs)
        with self.assertRaises(NoAnswer):
            first_question(3, 0, [("abc", "cba")])


class ErrorsTest(unittest.TestCase):
    def test_errors_in_order(self):
        for call in OF_PAIRS:
            for k in BAD_LETTERS:
                for n in (1, 3):
                    with self.assertRaises(BadNumber):
                        call(k, n, [("x", "x")])
            for n in BAD_N:
                for pairs in ([], [("x", "x")], [("a", "a")] * 41):
                    with self.assertRaises(BadNumber):
                        call(2, n, pairs)
            for word in BAD_WORDS:
                for pairs in ([(word, "a")], [("a", word)], [("a", "a")] * 41 + [("a", word)]):
                    with self.assertRaises(NotWord):
                        call(2, 1, pairs)
            with self.assertRaises(TooLarge):
                call(2, 1, [("a", "")] * 41)
            with self.assertRaises(TooLarge):
                call(3, 1, [("a", "b"), ("a", "c")] * 21)
            call(2, 1, [("a", "")] * 40)
            call(3, 1, [("c", "a" * 0)] * 40)


if __name__ == "__main__":
    unittest.main()
