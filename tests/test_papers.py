"""Papers and answers: [260], [261], [262], and papers.py of the interface."""

import random
import unittest
from time import process_time
from unittest import mock

from soundturns.equal import first_word, is_closed, least_table
from soundturns.errors import BadNumber, NotRule, TooLarge
from soundturns.machines import is_wide, still
from soundturns.making import behind, list_machine, rule_machine
from soundturns.papers import decide, last_machine, paper_of, shows
from soundturns.texts import read_rules
from tests.samples import (BAD_NUMBERS, first_apart, slow_change, slow_form, slow_list, small_rule, some_list,
                           words_up_to)
from tests.test_making import BAD_RULES, MANY_STATES, SIXTY_ONE


class PaperTest(unittest.TestCase):
    def check(self, k, rules, words):
        """Check the paper of a list, tuple by tuple, and by words."""
        paper = paper_of(k, rules)
        self.assertIsInstance(paper, list)
        self.assertEqual(len(paper), len(rules))
        before = still(k)
        for at, (rule, step) in enumerate(zip(rules, paper)):
            self.assertIsInstance(step, tuple)
            one, first, made, second = step
            for machine in (one, made):
                self.assertIs(is_wide(machine), True)
                self.assertEqual(machine[0], k)
            self.assertIs(is_closed(rule_machine(k, rule), one, first), True)
            self.assertIs(is_closed(behind(before, one), made, second), True)
            for word in words:
                self.assertEqual(slow_form(one, word), slow_change(rule, word))
                self.assertEqual(slow_form(made, word), slow_list(rules[:at + 1], word))
            before = made
        self.assertEqual(last_machine(k, paper), before)
        return paper

    def test_the_empty_list(self):
        for k in range(2, 7):
            self.assertEqual(paper_of(k, ()), [])
            self.assertEqual(last_machine(k, []), still(k))

    def test_one_rule_and_several(self):
        words = words_up_to(2, 5)
        for text in ("a > b / _ b", "a > b / _", "a > - / # ab _ b", "a > b / _ b ; b > - / b _ #",
                     "a > aba / ab ab _ ab #", "a > a / _ ; a > a / _", "a > aaa / _ ; a > aaa / _ ; a > bbb / b _"):
            self.check(2, read_rules(2, text), words)
        source = random.Random(260)
        for _ in range(40):
            k = source.choice((2, 3))
            self.check(k, some_list(source, k, 5), words_up_to(k, 3))
        for _ in range(5):
            self.check(6, tuple(small_rule(source, 6) for _ in range(3)), words_up_to(6, 2))

    def test_last_machine_raises_nothing(self):
        for k in BAD_NUMBERS:
            last_machine(k, [])
            self.assertEqual(last_machine(k, paper_of(2, read_rules(2, "a > b / _"))),
                             list_machine(2, read_rules(2, "a > b / _")))

    def test_errors_in_order(self):
        for k in BAD_NUMBERS:
            for rules in ((), (BAD_RULES[0],)):
                with self.assertRaises(BadNumber):
                    paper_of(k, rules)
        for rules in ((BAD_RULES[0],), (("a", "b", (), ()),) * 9, SIXTY_ONE + (BAD_RULES[0],)):
            with self.assertRaises(NotRule):
                paper_of(2, rules)
        for rules in (SIXTY_ONE, MANY_STATES):
            with self.assertRaises(TooLarge):
                paper_of(2, rules)

    def test_eight_rules_of_six_letters(self):
        source = random.Random(261)
        begin = process_time()
        rules = some_list(source, 6, 1) + tuple(small_rule(source, 6) for _ in range(7))
        paper = self.check(6, rules, words_up_to(6, 1))
        self.assertEqual(len(paper), len(rules))
        self.assertLess(process_time() - begin, 10)

    def test_no_list_is_shared(self):
        rules = read_rules(2, "a > b / _ b ; a > b / _ b")
        paper = paper_of(2, rules)
        lists = [entry for step in paper for entry in step if isinstance(entry, list)]
        for given in (lists, [paper]):
            for found in given:
                found.append("x")
        self.check(2, rules, ["ab"])
        self.assertEqual(len({id(found) for found in lists}), 4)


class DecideTest(unittest.TestCase):
    def check_alike(self, k, one, other):
        """Check an answer that two lists are alike."""
        kind, paper, paper2, table = decide(k, one, other)
        self.assertEqual(kind, "alike")
        self.assertEqual((paper, paper2), (paper_of(k, one), paper_of(k, other)))
        machine, machine2 = last_machine(k, paper), last_machine(k, paper2)
        self.assertIs(is_closed(machine, machine2, table), True)
        self.assertEqual(len({id(found) for found in (paper, paper2, table)}), 3)

    def test_ordinary(self):
        self.assertEqual(decide(2, (), ()), ("alike", [], [], [(0, 0, ("", ""))]))
        self.assertEqual(decide(2, read_rules(2, "a > b / _ b"), ()), ("apart", "ab"))
        self.assertEqual(decide(2, (), read_rules(2, "a > b / _ b")), ("apart", "ab"))
        self.assertEqual(decide(6, (), read_rules(6, "f > - / # _ #")), ("apart", "f"))
        for one, other in (("a > b / _", "a > b / _"), ("a > - / _ a", "a > - / a _"), ("a > a / _", "none"),
                           ("a > b / _ ; a > - / _", "a > b / _"), ("b > - / _ ; b > - / _", "b > - / _")):
            self.check_alike(2, read_rules(2, one), read_rules(2, other))
            self.check_alike(2, read_rules(2, other), read_rules(2, one))

    def test_the_first_word_whose_forms_differ(self):
        source = random.Random(262)
        words = words_up_to(2, 6)
        found = {}
        for _ in range(300):
            one = tuple(small_rule(source, 2) for _ in range(source.randint(0, 3)))
            other = one[::-1] if source.random() < 0.5 else one[1:]
            word = first_apart(one, other, words)
            told = decide(2, one, other)
            if word is None:
                self.check_alike(2, one, other)
            else:
                self.assertEqual(told, ("apart", word))
                self.assertEqual(word, first_word(list_machine(2, one), list_machine(2, other)))
            self.assertEqual(shows(told), "alike" if word is None else "apart")
            found[word and len(word)] = True
        self.assertGreater(len(found), 4)
        self.assertIn(None, found)

    def test_errors_in_order(self):
        bad = (BAD_RULES[0],)
        for k in BAD_NUMBERS:
            with self.assertRaises(BadNumber):
                decide(k, bad, bad)
        for one, other in ((bad, SIXTY_ONE), (SIXTY_ONE, bad), (bad, ()), ((), bad), ((), (("a", "", (), ()),) * 9),
                           ((("a", "", (), ()),) * 9, ()), (SIXTY_ONE + bad, ())):
            with self.assertRaises(NotRule):
                decide(2, one, other)
        for one, other in ((SIXTY_ONE, ()), ((), SIXTY_ONE), (MANY_STATES, MANY_STATES), ((), MANY_STATES)):
            with self.assertRaises(TooLarge):
                decide(2, one, other)
        rules = read_rules(2, "a > - / a ab _ b ; a > - / ab _ ab b ; a > bb / ab a _ b b")
        with mock.patch("soundturns.equal.MOST_PAIRS", 3), self.assertRaises(TooLarge):
            decide(2, rules, rules[:2])

    def test_shows(self):
        self.assertEqual(shows(("alike", [], [], [])), "alike")
        self.assertEqual(shows(("apart", "ab")), "apart")

    def test_the_table_is_one_of_the_machines_of_the_papers(self):
        rules = read_rules(2, "a > b / _ a ; b > - / b _ a")
        table = decide(2, rules, rules + rules[:0])[3]
        self.assertEqual(table, least_table(list_machine(2, rules), list_machine(2, rules)))


if __name__ == "__main__":
    unittest.main()
