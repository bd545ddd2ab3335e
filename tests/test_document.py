"""The whole document: its examples, and what it promises over several files at once."""

import random
import unittest
from pathlib import Path

from soundturns import apart, certificates, equal, images, languages, sources
from soundturns.books import guesses, paradigm, stems_of, told_back
from soundturns.desk import Desk
from soundturns.feeding import bleeding, feeding, first_acting, idle
from soundturns.finding import explaining, explains, first_list, first_question, first_rule
from soundturns.journal import Journal, attempt, resume
from soundturns.least import beginnings, early, least, reached
from soundturns.lists import acting, form_of, renamed_rules, settled, steps_of, turned_rules
from soundturns.machines import form, still
from soundturns.making import behind, list_machine, rule_machine
from soundturns.orders import are_alike, clash, is_steady, needless, orders, same_times, thinned, unsteady
from soundturns.papers import decide, last_machine, paper_of
from soundturns.rules import changed, renamed, renamed_word, turned
from soundturns.texts import read_rule, read_rules, text_of_rules
from soundturns.traces import pieces, trace_of
from soundturns.words import in_order, letters_of, words_of_length
from tests.samples import (LANGUAGE, MACHINE, slow_list, small_rule, some_language, some_list, some_rule,
                           some_word, words_up_to)

ROOT = Path(__file__).resolve().parent.parent


class ExamplesTest(unittest.TestCase):
    def test_rules_and_lists(self):
        rule = ("a", "", ("#", "ab"), ("b",))
        self.assertEqual(read_rule(2, "a > - / # ab _ b"), rule)
        self.assertEqual((changed(3, rule, "aab"), changed(3, rule, "caab")), ("ab", "caab"))
        self.assertEqual(changed(2, read_rule(2, "a > b / a _"), "aaaa"), "abbb")
        rules = read_rules(2, "a > b / _ b ; b > - / b _ #")
        self.assertEqual(steps_of(2, rules, "aab"), ["aab", "abb", "ab"])
        self.assertEqual((trace_of(2, rules, "aab"), pieces(2, rules, "aab")), ([0, 1], ["a", "b", ""]))

    def test_machines(self):
        self.assertEqual(rule_machine(2, ("a", "b", (), ("a",))), MACHINE)
        self.assertEqual(form(MACHINE, "aaba"), "baba")
        self.assertEqual(beginnings(MACHINE), ["", "", "b"])
        self.assertEqual(least(MACHINE), (2, "", (("", (("", 1), ("b", 0))), ("a", (("b", 1), ("ab", 0))))))
        self.assertEqual(sources.all_sources(MACHINE, "ba"), ["aa", "ba"])
        self.assertEqual((sources.all_sources(MACHINE, "ab"), sources.all_sources(MACHINE, "aa")), (["ab"], []))
        takes_away = rule_machine(2, ("a", "", (), ()))
        self.assertEqual(sources.source_counts(takes_away, "b", 5), [0, 1, 2, 3, 4, 5])

    def test_languages_and_places(self):
        self.assertEqual(languages.of_words(2, ["a", "ab"]), LANGUAGE)
        self.assertEqual(images.missing(rule_machine(2, ("a", "b", (), ("a",)))), "aa")
        self.assertIs(apart.is_one_to_one(MACHINE), False)
        self.assertIs(certificates.pair_shown(MACHINE, "aa", "ba"), True)
        self.assertEqual(apart.closed_places(still(2)), apart.starts(still(2)))
        self.assertEqual(apart.starts(still(2)), [(-1, 0, ("", "a")), (-1, 0, ("", "b"))])

    def test_books(self):
        book = (2, (("b", "", (), ("#",)),), (("ab", 0), ("a", 0)), ((("", ""), ("", "a")),))
        self.assertEqual([paradigm(book, 0), paradigm(book, 1)], [["a", "aba"], ["a", "aa"]])
        self.assertEqual(told_back(book, "a"), [(0, 0), (1, 0)])
        self.assertEqual(languages.listed(stems_of(book, 0, 0, "a"), 10), ["a", "ab"])

    def test_orders_and_answers(self):
        one, other = read_rule(2, "a > b / _ b"), read_rule(2, "b > a / _ b")
        self.assertEqual(feeding(2, one, other), "ab")
        self.assertEqual((form_of(2, (one, other), "ab"), form_of(2, (other, one), "ab")), ("ab", "bb"))
        self.assertEqual(clash(2, one, other), "ab")
        pairs = [("ab", "bb"), ("ba", "ba")]
        self.assertEqual(first_rule(2, 1, pairs), one)
        self.assertIs(explains(2, read_rules(2, "a > b / # _"), pairs), True)
        self.assertEqual(first_question(2, 1, pairs), "a")
        self.assertEqual((form_of(2, (one,), "a"), form_of(2, read_rules(2, "a > b / # _"), "a")), ("a", "b"))
        self.assertEqual(certificates.shown(2, (one,), (), ("apart", "ab")), "apart")
        self.assertEqual(certificates.shown(2, (one,), (), ("apart", "ba")), "none")


class AgreeingTest(unittest.TestCase):
    """What one file tells is what the other ones tell of the same lists."""

    def test_lists_turned_about_and_renamed(self):
        source = random.Random(24)
        for _ in range(60):
            rules, word = some_list(source, 3, 3), some_word(source, 3, 8)
            around = turned_rules(3, rules)
            self.assertEqual(form_of(3, around, word[::-1]), form_of(3, rules, word)[::-1])
            for names in ("abc", "bca", "acb"):
                other = renamed_rules(3, rules, names)
                renamed_form = "".join(names["abc".index(letter)] for letter in form_of(3, rules, word))
                self.assertEqual(form_of(3, other, renamed_word(3, word, names)), renamed_form)
            rule = some_rule(source, 3)
            self.assertEqual(turned(3, turned(3, rule)), rule)
            self.assertEqual(renamed(3, renamed(3, rule, "bca"), "cab"), rule)

    def test_turning_and_renaming_keep_what_is_told(self):
        source = random.Random(43)
        for _ in range(60):
            rules = tuple(small_rule(source, 2) for _ in range(source.randint(0, 4)))
            for other in (turned_rules(2, rules), renamed_rules(2, rules, "ba")):
                self.assertEqual(needless(2, other), needless(2, rules))
                self.assertEqual(idle(2, other), idle(2, rules))
                self.assertEqual(orders(2, other), orders(2, rules))
                self.assertIs(is_steady(2, other), is_steady(2, rules))
                self.assertIs(apart.is_one_to_one(list_machine(2, other)), apart.is_one_to_one(list_machine(2, rules)))
                self.assertEqual(images.missing(list_machine(2, other)) is None,
                                 images.missing(list_machine(2, rules)) is None)
            if len(rules) > 1:
                for call in (feeding, bleeding):
                    told = call(2, rules[0], rules[1])
                    around = call(2, turned(2, rules[0]), turned(2, rules[1]))
                    self.assertEqual(told is None or len(told), around is None or len(around))

    def test_lists_behind_one_another(self):
        source = random.Random(44)
        for _ in range(60):
            one, other = some_list(source, 2, 3), some_list(source, 2, 3)
            machine, machine2 = list_machine(2, one), list_machine(2, other)
            joined = list_machine(2, one + other)
            self.assertEqual(least(behind(machine, machine2)), joined)
            self.assertEqual(least(early(behind(machine, machine2))), joined)
            self.assertEqual(reached(joined), list(range(len(joined[2]))))
            for word in words_up_to(2, 4):
                self.assertEqual(form(joined, word), form_of(2, other, form_of(2, one, word)))

    def test_what_tells_that_lists_are_alike(self):
        source = random.Random(105)
        found = [0, 0]
        for _ in range(150):
            one = tuple(small_rule(source, 2) for _ in range(source.randint(1, 4)))
            other = one[::-1] if source.random() < 0.4 else thinned(2, one) if source.random() < 0.5 else one[1:]
            machine, machine2 = list_machine(2, one), list_machine(2, other)
            is_same = machine == machine2
            answer = decide(2, one, other)
            word = equal.first_word(machine, machine2)
            self.assertIs(are_alike(2, one, other), is_same)
            self.assertEqual(equal.lists_alike(2, one, other)[0], "alike" if is_same else "apart")
            self.assertEqual(certificates.shown(2, one, other, answer), "alike" if is_same else "apart")
            self.assertEqual(equal.least_table(machine, machine2) is not None, is_same)
            if word is not None:
                self.assertEqual(answer, ("apart", word))
                self.assertNotEqual(slow_list(one, word), slow_list(other, word))
            desk = Desk()
            desk.answers(["list a 2 " + text_of_rules(2, one), "list b 2 " + text_of_rules(2, other)])
            self.assertEqual(desk.answers(["alike a b", "decide a b", "table a b"]),
                             ["yes", "alike", str(len(machine[2]))] if is_same else [word, "apart", "none"])
            found[is_same] += 1
        self.assertGreater(min(found), 30)

    def test_rules_that_act_feed_and_are_needed(self):
        source = random.Random(224)
        for _ in range(80):
            rules = tuple(small_rule(source, 2) for _ in range(source.randint(2, 4)))
            for index in range(len(rules)):
                word = first_acting(2, rules, index)
                if word is None:
                    self.assertIn(index, needless(2, rules))
                else:
                    self.assertIn(index, acting(2, rules, word))
            if idle(2, rules) == list(range(len(rules))):
                self.assertIs(are_alike(2, rules, ()), True)
            # Rules of which neither one feeds or bleeds the other one act on the same words in both orders.
            one, other = rules[:2]
            if feeding(2, one, other) is None and bleeding(2, one, other) is None:
                for word in words_up_to(2, 4):
                    self.assertEqual(1 in acting(2, (one, other), word), 0 in acting(2, (other, one), word))

    def test_lists_that_are_used_again(self):
        source = random.Random(225)
        for _ in range(80):
            rules = tuple(small_rule(source, 2) for _ in range(source.randint(0, 2)))
            self.assertIs(is_steady(2, rules), are_alike(2, rules, rules + rules))
            times = same_times(2, rules, 3)
            if times is not None:
                self.assertIs(are_alike(2, rules * times[0], rules * times[1]), True)
                self.assertIs(are_alike(2, rules * (times[0] + 1), rules * (times[1] + 1)), True)
            if is_steady(2, rules):
                self.assertIn(times, [(0, 1), (1, 2)])
                for word in words_up_to(2, 4):
                    self.assertIsNotNone(settled(2, rules, word, most=1))
            else:
                word = unsteady(2, rules)
                self.assertNotEqual(form_of(2, rules + rules, word), form_of(2, rules, word))

    def test_papers_are_proofs_of_what_the_machines_tell(self):
        source = random.Random(260)
        for _ in range(40):
            k = source.choice((2, 3))
            rules = some_list(source, k, 4)
            paper = paper_of(k, rules)
            machine = last_machine(k, paper)
            self.assertIs(certificates.is_paper(k, rules, paper), True)
            self.assertEqual(least(machine), list_machine(k, rules))
            places = apart.closed_places(machine)
            if places is None:
                one, other = apart.two_words(machine)
                self.assertIs(certificates.pair_shown(machine, one, other), True)
                self.assertEqual(slow_list(rules, one), slow_list(rules, other))
            else:
                self.assertIs(certificates.places_shown(machine, places), True)

    def test_forms_and_sources_of_languages(self):
        source = random.Random(164)
        for _ in range(40):
            machine = list_machine(2, tuple(small_rule(source, 2) for _ in range(2)))
            one, other = some_language(source, 2, 3), some_language(source, 2, 3)
            self.assertIs(images.leads_into(machine, one, other),
                          languages.is_within(one, images.sources(machine, other)))
            self.assertIs(images.leads_into(machine, one, other),
                          languages.is_within(images.forms(machine, one), other))
            self.assertEqual(images.sources(machine, languages.others(other)),
                             languages.others(images.sources(machine, other)))
            word = some_word(source, 2, 4)
            self.assertIs(images.is_form(machine, word), sources.has_source(machine, word))
            self.assertIs(languages.takes(images.all_forms(machine), word), images.is_form(machine, word))

    def test_rules_that_are_found_from_a_desk(self):
        source = random.Random(241)
        for _ in range(40):
            rule = small_rule(source, 2)
            words = [some_word(source, 2, 5) for _ in range(4)]
            pairs = [(word, slow_list((rule,), word)) for word in words]
            desk = Desk()
            line = " ".join(text or "-" for pair in pairs for text in pair)
            found = first_rule(2, 1, pairs)
            self.assertEqual(desk.answer("learn a 2 1 " + line), "none" if found is None else "1")
            if found is not None:
                self.assertEqual(desk.thing("a"), (2, (found,)))
                self.assertEqual(explaining(2, 1, pairs)[0], found)
                self.assertIs(explains(2, (found,), pairs), True)
            told = first_list(2, 1, 1, pairs)
            self.assertEqual(told, () if explains(2, (), pairs) else None if found is None else (found,))

    def test_stems_of_what_is_told_back(self):
        book = (2, read_rules(2, "a > b / _ b ; b > - / b _ #"), (("ab", 0), ("b", 1), ("", 0)),
                ((("", "b"), None), (("a", ""), ("", "a"))))
        for index, (stem, number) in enumerate(book[2]):
            for cell, told in enumerate(paradigm(book, index)):
                if told is not None:
                    self.assertIn((index, cell), told_back(book, told))
                    self.assertIs(languages.takes(stems_of(book, number, cell, told), stem), True)
                    self.assertIn((number, cell), [found[:2] for found in guesses(book, told)])


class ValuesTest(unittest.TestCase):
    """Results are plain values that share no list, and no argument is changed."""

    def lists_in(self, value):
        """Return the identities of all lists in a value."""
        found = [id(value)] if isinstance(value, list) else []
        if isinstance(value, (list, tuple)):
            for part in value:
                found.extend(self.lists_in(part))
        return found

    def calls(self):
        """Return calls that return lists, each one with its arguments."""
        rules = read_rules(2, "a > b / _ b ; b > a / # _ ; a > b / _ b")
        pairs = [("ab", "bb"), ("ba", "ba")]
        machine = list_machine(2, rules)
        return [(needless, (2, rules)), (orders, (2, rules)), (idle, (2, rules)), (paper_of, (2, rules)),
                (decide, (2, rules, rules)), (explaining, (2, 1, pairs)), (explains, (2, rules, pairs)),
                (first_list, (2, 1, 1, pairs)), (first_question, (2, 1, pairs)), (words_of_length, (2, 3)),
                (in_order, (["b", "a"],)), (equal.least_table, (machine, machine)), (apart.starts, (machine,)),
                (certificates.is_paper, (2, rules, paper_of(2, rules))), (steps_of, (2, rules, "aab")),
                (certificates.shown, (2, rules, rules, decide(2, rules, rules))), (pieces, (2, rules, "aab")),
                (certificates.table_shown, (machine, machine, equal.least_table(machine, machine))),
                (certificates.places_shown, (still(2), apart.closed_places(still(2)))),
                (Desk().answers, (["list a 2 none", "show a"],)), (attempt, (Journal(), ["list a 2 none"]))]

    def test_no_list_is_shared_and_no_argument_changed(self):
        for call, given in self.calls():
            before = repr(given[-1])
            one, other = call(*given), call(*given)
            self.assertEqual(one, other, call)
            self.assertEqual(repr(given[-1]), before, call)
            found = self.lists_in(one) + self.lists_in(other) + self.lists_in(given)
            self.assertEqual(len(found), len(set(found)), call)

    def test_integers_are_no_truth_values(self):
        rules = read_rules(2, "a > b / _ b ; a > b / _ b")

        def numbers_in(value):
            if isinstance(value, (list, tuple)):
                return [number for part in value for number in numbers_in(part)]
            return [value] if isinstance(value, int) else []

        for value in (needless(2, rules), orders(2, rules), idle(2, rules), same_times(2, rules, 3),
                      paper_of(2, rules), decide(2, rules, rules), Desk().thing("a")):
            for number in numbers_in(value):
                self.assertIs(type(number), int)

    def test_integers_of_any_size(self):
        many = 10 ** 5000
        rules = read_rules(2, "a > b / _")
        machine = (2, "", (("", (("a", many), ("b", 0))),))
        self.assertIs(certificates.table_shown(still(2), still(2), [(many, -many, ("", ""))]), False)
        self.assertIs(certificates.places_shown(still(2), [(many, -many, ("", ""))]), False)
        self.assertIs(certificates.is_paper(2, rules, [(machine, [(many, 0, ("", ""))], still(2), [])]), False)
        self.assertEqual(last_machine(many, [(machine, [], machine, [])]), machine)
        self.assertEqual(letters_of(6), "abcdef")

    def test_a_journal_from_beginning_to_end(self):
        journal = Journal()
        lines = ["list a 2 a > b / _ b ; b > - / b _ #", "list b 2 a > b / _ b", "alike a b", "learn c 2 1 ab bb ba ba",
                 "alike b c", "thin d a", "orders a", "feeds a 0 a 1"]
        answers = [journal.answer(line) for line in lines]
        self.assertEqual(answers, ["2", "1", "ab", "1", "yes", "2", "2", "ab"])
        self.assertEqual(attempt(journal, ["drop a", "show a"])[0], ["ok", "unknown a"])
        other = resume(journal.record())
        self.assertEqual(other.record(), journal.record())
        self.assertEqual(other.answer("show a"), journal.answer("show a"))


class ReadmeTest(unittest.TestCase):
    def test_what_it_says_of_files(self):
        text = (ROOT / "README.md").read_text(encoding="utf-8")
        for path in (ROOT / "soundturns").glob("*.py"):
            if path.name != "__init__.py":
                self.assertIn(f"`soundturns/{path.name}`", text)


if __name__ == "__main__":
    unittest.main()
