"""Machines of rules and lists, and machines behind one another: [62] to [65], and making.py of the interface."""

import random
import unittest

from soundturns.errors import BadNumber, NotMachine, NotRule, TooLarge
from soundturns.least import least
from soundturns.lists import form_of
from soundturns.machines import is_wide, still
from soundturns.making import behind, list_machine, rule_machine
from tests.samples import (BAD_NUMBERS, LETTERS, MACHINE, all_rules, left_contexts, read_slowly, right_contexts,
                           ring, slow_change, slow_form, slow_indexes, some_machine, some_rule, words_up_to)

# Six rules whose machines have more than 2000 states on the way, and two that take away everything.
MANY_STATES = (("a", "b", ("a", "ab"), ("ab", "a")), ("b", "a", ("b", "ab"), ("ab", "b")),
               ("b", "", ("ab", "ab"), ("ab", "a")), ("a", "b", ("a", "ab"), ("ab", "a")),
               ("b", "", ("a", "ab"), ("ab", "ab")), ("a", "ab", ("b", "ab"), ("ab", "b")))
NOTHING_LEFT = (("a", "", (), ()), ("b", "", (), ()))
# Lists whose machines write words of 60 letters, and of 61.
SIXTY = (("b", "bbb", (), ()), ("b", "aab", (), ()), ("a", "bb", (), ()), ("b", "aa", (), ()), ("a", "aa", (), ()))
SIXTY_ONE = (("a", "baa", (), ()), ("b", "aab", (), ()), ("a", "ba", (), ()), ("b", "aab", (), ()),
             ("a", "ba", (), ()), ("a", "bab", (), ()))
BAD_RULES = (("c", "", (), ()), ("a", "aaaa", (), ()), ("a", "", ("a", "#"), ()), ("a", "", (), ("#", "a")),
             ("a", "", ("ba",), ()), ("a", "", ("a", "a", "a"), ()))


def slow_parts(rule, word):
    """Return what a rule makes of each letter of a word."""
    places = slow_indexes(rule, word)
    return [rule[1] if at in places else letter for at, letter in enumerate(word)]


def slow_behind(one, other):
    """Return one machine behind another one, found word by word: each pair stands for its first word."""
    def pair_of(word):
        told, state = read_slowly(one, word)
        return state, read_slowly(other, told)[1]

    def told_from(state, text):
        written, after = "", state
        for letter in text:
            out, after = other[2][after][1][LETTERS.index(letter)]
            written += out
        return written, after

    words = {pair_of(""): ""}
    for pair, word in iter_growing(words):
        for letter in LETTERS[:one[0]]:
            words.setdefault(pair_of(word + letter), word + letter)
    numbers = {pair: number for number, pair in enumerate(words)}
    rows = []
    for (state, state2), word in words.items():
        last, entries = one[2][state]
        told, after = told_from(state2, last)
        row = [(told_from(state2, out)[0], numbers[pair_of(word + letter)])
               for letter, (out, _) in zip(LETTERS, entries)]
        rows.append((told + other[2][after][0], tuple(row)))
    return one[0], other[1] + told_from(0, one[1])[0], tuple(rows)


def iter_growing(found):
    """Yield the items of a dict, also those that are added meanwhile."""
    at = 0
    while at < len(found):
        yield list(found.items())[at]
        at += 1


def copying(k, length):
    """Return a machine that writes each letter so many times."""
    return k, "", (("", tuple((letter * length, 0) for letter in LETTERS[:k])),)


class RuleMachineTest(unittest.TestCase):
    def test_example(self):
        self.assertEqual(rule_machine(2, ("a", "b", (), ("a",))), MACHINE)

    def test_a_rule_without_places(self):
        self.assertEqual(rule_machine(3, ("b", "ca", (), ())),
                         (3, "", (("", (("a", 0), ("ca", 0), ("c", 0))),)))

    def test_both_edges(self):
        self.assertEqual(rule_machine(2, ("a", "bb", ("#",), ())),
                         (2, "", (("", (("bb", 1), ("b", 2))), ("", (("a", 1), ("b", 2))),
                                  ("", (("a", 1), ("b", 2))))))
        self.assertEqual(rule_machine(2, ("b", "", (), ("#",))),
                         (2, "", (("", (("", 1), ("", 2))), ("a", (("a", 1), ("a", 2))),
                                  ("", (("b", 1), ("b", 2))))))

    def check(self, k, rule, longest):
        """Check the machine of a rule by all words of at most so many letters, sign by sign."""
        machine = rule_machine(k, rule)
        kept = len(rule[2]) + len(rule[3])
        states = words_up_to(k, kept)
        self.assertEqual((machine[0], machine[1], len(machine[2])), (k, "", len(states)))
        self.assertTrue(is_wide(machine))
        for word in words_up_to(k, longest):
            told, state = read_slowly(machine, word)
            parts = slow_parts(rule, word)
            due = max(0, len(word) - len(rule[3]))
            self.assertEqual(told, "".join(parts[:due]), (rule, word))
            self.assertEqual(states[state], word[max(0, len(word) - kept):], (rule, word))
            self.assertEqual(machine[2][state][0], "".join(parts[due:]), (rule, word))

    def test_each_pair_of_contexts(self):
        for left in left_contexts(2):
            for right in right_contexts(2):
                for letter, new in (("a", "b"), ("b", ""), ("a", "aba")):
                    self.check(2, (letter, new, left, right), 5)

    def test_some_rules_of_more_letters(self):
        source = random.Random(62)
        for k in (3, 4):
            for _ in range(60):
                self.check(k, some_rule(source, k), 4)
        for rule in (("f", "ace", ("bdf",), ("af",)), ("c", "", (), ("#",)), ("e", "fed", ("#", "abcdef"), ())):
            self.check(6, rule, 3)

    def test_the_form_of_each_short_word(self):
        rules = all_rules(2)[::7]
        for rule in rules:
            machine = rule_machine(2, rule)
            for word in words_up_to(2, 4):
                self.assertEqual(slow_form(machine, word), slow_change(rule, word), (rule, word))

    def test_the_largest_machine(self):
        machine = rule_machine(6, ("f", "abc", ("#", "abcdef"), ("bdf", "#")))
        self.assertEqual(len(machine[2]), 1 + 6 + 36 + 216 + 1296)
        self.assertEqual(slow_form(machine, "afb"), "aabcb")

    def test_errors(self):
        for k in BAD_NUMBERS:
            for rule in (("a", "", (), ()), BAD_RULES[0]):
                with self.assertRaises(BadNumber):
                    rule_machine(k, rule)
        for rule in BAD_RULES:
            with self.assertRaises(NotRule):
                rule_machine(2, rule)


class BehindTest(unittest.TestCase):
    def test_first_and_last(self):
        one = (2, "ab", (("b", (("a", 1), ("", 0))), ("", (("bb", 0), ("b", 1)))))
        other = (2, "b", (("a", (("", 1), ("b", 0))), ("bb", (("aa", 0), ("a", 0)))))
        # Behind `ab` the second one is in the state 0 and has written `a`.
        self.assertEqual(behind(one, other), (2, "ba", (
            ("ba", (("", 1), ("", 0))),
            ("bb", (("ab", 0), ("a", 2))),
            ("a", (("bb", 0), ("b", 2))))))

    def test_each_pair_stands_for_its_first_word(self):
        source = random.Random(64)
        for _ in range(150):
            k = source.choice((2, 2, 3))
            one = some_machine(source, k, source.randint(1, 4), 3)
            other = some_machine(source, k, source.randint(1, 4), 3)
            made = behind(one, other)
            self.assertEqual(made, slow_behind(one, other))
            for word in words_up_to(k, 4):
                self.assertEqual(slow_form(made, word), slow_form(other, slow_form(one, word)))

    def test_the_order_counts(self):
        other = rule_machine(2, ("b", "a", (), ()))
        self.assertEqual(slow_form(behind(MACHINE, other), "aaba"), "aaaa")
        self.assertEqual(slow_form(behind(other, MACHINE), "aaba"), "bbba")

    def test_nothing_is_made_least(self):
        one = (2, "", (("", (("a", 1), ("b", 1))), ("", (("a", 0), ("b", 0)))))
        self.assertEqual(behind(one, still(2)), one)
        self.assertEqual(behind(still(2), one), one)
        unreached = (2, "", (("", (("a", 0), ("b", 0))), ("", (("a", 0), ("b", 0)))))
        self.assertEqual(behind(unreached, unreached), still(2))

    def test_numbers_of_pairs(self):
        for one, other, pairs in ((16, 125, 2000), (1, 2000, 2000), (2000, 1, 2000), (2000, 2000, 2000),
                                  (1999, 1, 1999)):
            made = behind(ring(one, 2, "a"), ring(other, 2, ""))
            self.assertEqual(len(made[2]), pairs)
        for one, other in ((23, 87), (667, 3), (45, 46), (2000, 1999), (1999, 2000)):
            with self.assertRaises(TooLarge):
                behind(ring(one, 2, "a"), ring(other, 2, ""))

    def test_long_words(self):
        one = (2, "a" * 30, (("b" * 30, (("ab" * 15, 0), ("", 0))),))
        self.assertEqual(behind(one, copying(2, 2)),
                         (2, "a" * 60, (("b" * 60, (("aabb" * 15, 0), ("", 0))),)))
        long = "a" * 30
        for first, last, out in ((long + "a", "", ""), ("", long + "a", ""), ("", "", long + "a")):
            made = (2, first, ((last, ((out, 0), ("", 0))),))
            with self.assertRaises(TooLarge):
                behind(made, copying(2, 2))
            self.assertEqual(behind(made, copying(2, 1)), made)
        # What the second one has at its own beginning and end counts, too.
        added = (2, "ab", (("ab", (("a", 0), ("b", 0))),))
        entries = (("a", 0), ("b", 0))
        self.assertEqual(behind((2, "a" * 58, (("b" * 58, entries),)), added),
                         (2, "ab" + "a" * 58, (("b" * 58 + "ab", entries),)))
        for made in ((2, "a" * 59, (("", entries),)), (2, "", (("a" * 59, entries),))):
            with self.assertRaises(TooLarge):
                behind(made, added)

    def test_long_words_of_pairs_that_are_not_reached(self):
        one = (2, "", (("", (("a", 0), ("b", 0))), ("a" * 60, (("a" * 60, 0), ("b" * 60, 1)))))
        self.assertEqual(behind(one, copying(2, 2)), copying(2, 2))

    def test_errors_in_order(self):
        bad = ring(2001)
        long = (2, "a" * 60, still(2)[2])
        for one, other, error in ((bad, bad, NotMachine), (bad, still(3), NotMachine), (still(3), bad, NotMachine),
                                  (long, bad, NotMachine), (still(2), still(3), BadNumber),
                                  (ring(2000), still(3), BadNumber), (long, copying(3, 2), BadNumber),
                                  (long, copying(2, 2), TooLarge)):
            with self.assertRaises(error):
                behind(one, other)

    def test_machines_of_two_thousand_states(self):
        source = random.Random(2000)
        one = some_machine(source, 6, 2000, 60)
        self.assertEqual(len(behind(one, still(6))[2]), len(behind(still(6), one)[2]))


class ListMachineTest(unittest.TestCase):
    def test_short_lists(self):
        for k in range(2, 7):
            self.assertEqual(list_machine(k, ()), still(k))
        self.assertEqual(list_machine(2, (("a", "b", (), ("a",)),)),
                         (2, "", (("", (("", 1), ("b", 0))), ("a", (("b", 1), ("ab", 0))))))
        self.assertEqual(list_machine(2, NOTHING_LEFT), (2, "", (("", (("", 0), ("", 0))),)))

    def test_rule_by_rule(self):
        source = random.Random(65)
        for _ in range(60):
            k = source.randint(2, 4)
            rules = tuple(some_rule(source, k) for _ in range(source.randint(1, 5)))
            made = still(k)
            for at, rule in enumerate(rules):
                made = least(behind(made, least(rule_machine(k, rule))))
                self.assertEqual(list_machine(k, rules[:at + 1]), made)

    def test_forms_and_leastness(self):
        source = random.Random(66)
        for _ in range(60):
            k = source.randint(2, 3)
            rules = tuple(some_rule(source, k) for _ in range(source.randint(0, 8)))
            machine = list_machine(k, rules)
            self.assertEqual(least(machine), machine)
            for word in words_up_to(k, 5):
                self.assertEqual(slow_form(machine, word), form_of(k, rules, word))

    def test_many_states_on_the_way(self):
        machine = list_machine(2, MANY_STATES[:5])
        for word in words_up_to(2, 9):
            self.assertEqual(slow_form(machine, word), form_of(2, MANY_STATES[:5], word))
        self.assertEqual(list_machine(2, MANY_STATES[:5] + NOTHING_LEFT), list_machine(2, NOTHING_LEFT))
        for rules in (MANY_STATES, MANY_STATES + NOTHING_LEFT):
            with self.assertRaises(TooLarge):
                list_machine(2, rules)

    def test_long_words_on_the_way(self):
        self.assertEqual(max(len(out) for _, entries in list_machine(2, SIXTY)[2] for out, _ in entries), 60)
        self.assertEqual(list_machine(2, SIXTY + NOTHING_LEFT), list_machine(2, NOTHING_LEFT))
        for rules in (SIXTY_ONE, SIXTY_ONE + NOTHING_LEFT):
            with self.assertRaises(TooLarge):
                list_machine(2, rules)

    def test_errors_in_order(self):
        for k in BAD_NUMBERS:
            for rules in ((), (BAD_RULES[0],), NOTHING_LEFT * 5):
                with self.assertRaises(BadNumber):
                    list_machine(k, rules)
        for rule in BAD_RULES:
            for rules in ((rule,), SIXTY_ONE + (rule,), NOTHING_LEFT + (rule,)):
                with self.assertRaises(NotRule):
                    list_machine(2, rules)
        with self.assertRaises(NotRule):
            list_machine(2, (("a", "aaa", (), ()),) * 9)
        with self.assertRaises(TooLarge):
            list_machine(2, (("a", "aaa", (), ()),) * 4)

    def test_eight_rules_of_six_letters(self):
        source = random.Random(8)
        for _ in range(3):
            rules = tuple(some_rule(source, 6) for _ in range(8))
            machine = list_machine(6, rules)
            for word in ("", "fedcba", "abcdef" * 3, "aabbccddeeff"):
                self.assertEqual(slow_form(machine, word), form_of(6, rules, word))


if __name__ == "__main__":
    unittest.main()
