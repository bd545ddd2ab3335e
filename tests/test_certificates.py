"""The checker: [182] to [184], [260] to [265], and certificates.py of the interface."""

import ast
import random
import unittest
from pathlib import Path
from time import process_time

from soundturns import certificates
from soundturns.apart import closed_places, is_closed_list, two_words
from soundturns.certificates import is_paper, pair_shown, places_shown, shown, table_shown
from soundturns.equal import is_closed, least_table
from soundturns.errors import BadNumber, NotMachine, NotRule
from soundturns.least import least
from soundturns.machines import still
from soundturns.making import list_machine, rule_machine
from soundturns.papers import decide, paper_of
from soundturns.rules import is_rules
from soundturns.texts import read_rules
from tests.samples import (BAD_NUMBERS, LETTERS, MACHINE, all_rules, ring, slow_form, slow_list, small_rule,
                           some_list, some_machine, some_rule, words_up_to)
from tests.test_making import BAD_RULES, MANY_STATES, SIXTY_ONE

RULES = read_rules(2, "a > b / _ b ; b > - / b _ #")
# The same forms, but other machines on the way.
LONGER = read_rules(2, "a > a / _ ; a > b / _ b ; b > - / b _ #")
BAD_LISTS = ((BAD_RULES[0],), (("a", "b", (), ()),) * 9, RULES + (BAD_RULES[2],))
OTHER_FORMS = ((), ("",), (2, ""), (2, "", ()), (2, "", ((),)), (2, "", (("", ()),)), (2, "", (("", ((), ())),)),
               (2, "", (("", (("", 0),)),)), (2, "", (("", (("a", 0), ("b", 0), ("c", 0))),)), (2, "", 0),
               (2, "", ("", "")), (2, 0, (("", (("a", 0), ("b", 0))),)), (2, "", ((0, (("a", 0), ("b", 0))),)),
               (2, "", (("", (("a", "0"), ("b", 0))),)), (True, "", (("", (("a", 0), ("b", 0))),)), 0, "", None, [])
NO_MACHINES = (ring(2001), (1, "", (("", (("a", 0),)),)), (7, "", (("", (("a", 0),) * 7),)), (7, "", still(6)[2]),
               (2, "c", ring(1)[2]), (2, "", (("", (("a", 1), ("b", 0))),)), (2, "", (("", (("a", -1), ("b", 0))),)),
               (2, "", (("", (("a" * 61, 0), ("b", 0))),)), (2, "a" * 61, ring(1)[2]),
               (2, "", (("b" * 61, (("a", 0), ("b", 0))),)), (10 ** 5000, "", ring(1)[2]), (3, "", ring(1)[2]))


def own_table(one, other):
    """Return the least table of two machines that change all words alike; they may have words of any length."""
    def left(text, text2):
        shorter = min(len(text), len(text2))
        return text[shorter:], text2[shorter:]

    table = [(0, 0, left(one[1], other[1]))]
    for state, state2, (text, text2) in table:
        for (out, after), (out2, after2) in zip(one[2][state][1], other[2][state2][1]):
            entry = after, after2, left(text + out, text2 + out2)
            if entry not in table:
                table.append(entry)
    return table


def own_behind(one, other):
    """Return the machine `other` behind `one`, with words of any length and any number of states."""
    def read(state, word):
        told = ""
        for letter in word:
            out, state = other[2][state][1][LETTERS.index(letter)]
            told += out
        return told, state

    told, state = read(0, one[1])
    pairs, rows = [(0, state)], []
    for state, state2 in pairs:
        row = []
        for out, after in one[2][state][1]:
            out2, after2 = read(state2, out)
            if (after, after2) not in pairs:
                pairs.append((after, after2))
            row.append((out2, pairs.index((after, after2))))
        told2, after2 = read(state2, one[2][state][0])
        rows.append((told2 + other[2][after2][0], tuple(row)))
    return one[0], other[1] + told, tuple(rows)


def own_paper(rules, ones, mades):
    """Return the paper with these machines."""
    k = ones[0][0]
    before = still(k)
    paper = []
    for rule, one, made in zip(rules, ones, mades):
        paper.append((one, own_table(rule_machine(k, rule), one), made, own_table(own_behind(before, one), made)))
        before = made
    return paper


def changed_entries(table):
    """Yield lists that differ from a table or a list of places in one entry."""
    for at, (state, state2, (left, left2)) in enumerate(table):
        yield table[:at] + table[at + 1:]
        yield table + [table[at]]
        yield table[:at] + [table[at]] + table[at:]
        for entry in ((state + 1, state2, (left, left2)), (state, state2 + 1, (left, left2)),
                      (state - 1, state2, (left, left2)), (state, -1 - state2, (left, left2)),
                      (state, 10 ** 30, (left, left2)), (-10 ** 5000, state2, (left, left2)),
                      (state, state2, (left + "a", left2)), (state, state2, (left, left2 + "b")),
                      (state, state2, (left + "a", left2 + "a")), (state, state2, ("x", left2)),
                      (state, state2, (left, "x")), (state, state2, (left2 + " ", left))):
            if entry != table[at]:
                yield table[:at] + [entry] + table[at + 1:]


def changed_machines(machine):
    """Yield machines, and tuples of their form, that write otherwise, or are none."""
    k, first, rows = machine
    yield (k, first + "a", rows)
    yield (k + 1, first, rows)
    yield (k, first, ())
    yield (k, "c", rows)
    yield (k, first, rows + rows[:1] * (2001 - len(rows)))
    for at, (last, entries) in enumerate(rows):
        yield (k, first, rows[:at] + ((last + "b", entries),) + rows[at + 1:])
        yield (k, first, rows[:at] + ((last, entries[:-1]),) + rows[at + 1:])
        for letter, (out, after) in enumerate(entries):
            for entry in ((out + "a", after), (out, len(rows)), (out, -1), ("c", after), (out + "b" * 61, after)):
                row = last, entries[:letter] + (entry,) + entries[letter + 1:]
                yield (k, first, rows[:at] + (row,) + rows[at + 1:])


class AloneTest(unittest.TestCase):
    def test_imports_only_the_errors(self):
        tree = ast.parse(Path(certificates.__file__).read_text(encoding="utf-8"))
        imports = [node for node in ast.walk(tree) if isinstance(node, (ast.Import, ast.ImportFrom))]
        self.assertEqual([node.module for node in imports], ["soundturns.errors"])


class PaperTest(unittest.TestCase):
    def test_papers_of_the_program(self):
        source = random.Random(263)
        for k in range(2, 7):
            self.assertIs(is_paper(k, (), []), True)
        for _ in range(60):
            k = source.choice((2, 2, 3, 4))
            rules = some_list(source, k, 5)
            self.assertIs(is_paper(k, rules, paper_of(k, rules)), True)
        for rule in all_rules(2)[::997]:
            self.assertIs(is_paper(2, (rule,), paper_of(2, (rule,))), True)

    def test_papers_of_other_lists(self):
        source = random.Random(2630)
        found = {True: 0, False: 0}
        for _ in range(60):
            rules = tuple(some_rule(source, 2) for _ in range(source.randint(1, 4)))
            other = some_list(source, 2, 4)
            papers = {}
            for given in (rules, other, rules[:-1], rules + rules[:1], rules[::-1]):
                papers[given] = paper_of(2, given)
            for given, paper in papers.items():
                # Of the rules only the first tables tell, and of these only the machines of the rules.
                alike = len(given) == len(rules) and all(
                    is_closed(rule_machine(2, rule), step[0], step[1]) for rule, step in zip(rules, paper))
                self.assertIs(is_paper(2, rules, paper), alike)
                found[alike] += 1
        self.assertGreater(min(found.values()), 50)

    def test_tuples_too_few_and_too_many(self):
        paper = paper_of(2, RULES)
        for given in ([], paper[:1], paper[1:], paper + paper[1:], paper + paper, paper[::-1], paper[:1] * 2,
                      [paper[0], paper[1][:3]], [paper[0], paper[1] + paper[1][:1]], [(), ()], [paper[0], ()],
                      [paper[0], list(paper[1])], tuple(paper), None, "paper", ["a", "b"], 2):
            self.assertIs(is_paper(2, RULES, given), False, given)
        self.assertIs(is_paper(2, (), paper), False)
        self.assertIs(is_paper(2, RULES, paper), True)

    def test_one_entry_of_a_table_changed(self):
        paper = paper_of(2, RULES)
        for at in (0, 1):
            for part in (1, 3):
                for table in changed_entries(paper[at][part]):
                    step = paper[at][:part] + (table,) + paper[at][part + 1:]
                    self.assertIs(is_paper(2, RULES, paper[:at] + [step] + paper[at + 1:]), False, table)

    def test_a_machine_changed(self):
        paper = paper_of(2, RULES)
        for at in (0, 1):
            for part in (0, 2):
                for machine in [*changed_machines(paper[at][part]), *OTHER_FORMS, *NO_MACHINES]:
                    step = paper[at][:part] + (machine,) + paper[at][part + 1:]
                    self.assertIs(is_paper(2, RULES, paper[:at] + [step] + paper[at + 1:]), False, machine)

    def test_tables_turned_round(self):
        rules = (("a", "b", (), ("a",)),)
        one, first, made, second = paper_of(2, rules)[0]
        self.assertIs(is_paper(2, rules, [(one, first, made, second)]), True)
        around = [(t, s, (y, x)) for s, t, (x, y) in first]
        self.assertIs(is_closed(one, rule_machine(2, rules[0]), around), True)
        self.assertIs(is_paper(2, rules, [(one, around, made, second)]), False)
        late = rule_machine(2, rules[0])
        paper = own_paper(rules, [one], [late])
        self.assertIs(is_paper(2, rules, paper), True)
        around = [(t, s, (y, x)) for s, t, (x, y) in paper[0][3]]
        self.assertIs(is_paper(2, rules, [(one, first, late, around)]), False)

    def test_machines_of_other_letters(self):
        rules = (("a", "a", (), ()),)
        table = [(0, 0, ("", ""))]
        for one, made, expected in ((2, 2, True), (3, 2, False), (2, 3, False), (3, 3, False)):
            self.assertIs(is_paper(2, rules, [(still(one), table, still(made), table)]), expected)

    def test_parts_in_another_order(self):
        one, first, made, second = paper_of(2, RULES)[1]
        begin = paper_of(2, RULES)[:1]
        for step in ((made, first, one, second), (one, second, made, first), (first, one, second, made)):
            self.assertIs(is_paper(2, RULES, begin + [step]), False)

    def test_other_papers_of_a_list(self):
        late = [rule_machine(2, rule) for rule in RULES]
        mades = [list_machine(2, RULES[:1]), list_machine(2, RULES)]
        for ones in ([least(machine) for machine in late], late):
            for made in (mades, [late[0], mades[1]], [mades[0], own_behind(late[0], late[1])]):
                self.assertIs(is_paper(2, RULES, own_paper(RULES, ones, made)), True)

    def test_tables_that_are_not_the_least_ones(self):
        # In a closed table of two machines each pair of states that is reached stands once; others may stand there.
        machine = (2, "", (("", (("a", 0), ("b", 0))), ("", (("a", 1), ("b", 1)))))
        rules = (("a", "a", (), ()),)
        tables = [[(0, 0, ("", ""))], [(0, 1, ("", "")), (0, 0, ("", ""))]]
        for table in tables:
            self.assertIs(is_paper(2, rules, [(machine, table, machine, tables[0])]), True)
            self.assertIs(is_paper(2, rules, [(machine, tables[0], machine, table)]), True)
        self.assertIs(is_paper(2, rules, [(machine, [(0, 1, ("", ""))], machine, tables[0])]), False)

    def test_states_of_a_machine_behind(self):
        rules = (("a", "a", (), ()),) * 2

        def copying(states):
            rows = [("", (("a", (at + 1) % states), ("b", (at + 1) % states))) for at in range(states)]
            return 2, "", tuple(rows)

        def table(many, many2, pairs):
            return [(at % many, at % many2, ("", "")) for at in range(pairs)]

        for many, many2, fits in ((2000, 1, True), (16, 125, True), (2000, 2000, True), (3, 667, False),
                                  (2000, 3, False), (1999, 2000, False)):
            pairs = own_behind(copying(many), copying(many2))[2] if fits else range(2001)
            paper = [(copying(1), table(1, 1, 1), copying(many), table(1, many, many)),
                     (copying(many2), table(1, many2, many2), copying(1), table(len(pairs), 1, len(pairs)))]
            self.assertEqual(len(pairs), 2000 if fits else 2001)
            self.assertIs(is_paper(2, rules, paper), fits)
            self.assertIs(is_paper(2, rules, paper[:1] + [paper[1][:3] + (table(1, 1, 1),)]), False)

    def test_a_machine_behind_with_words_of_any_length(self):
        rules = (("a", "aaa", (), ()),) * 2
        rows = []
        for many in range(20):
            full = many == 19
            rows.append(("aaa" * many, (("a" * 60 if full else "", 0 if full else many + 1), ("aaa" * many + "b", 0))))
        late = (2, "", tuple(rows))
        one = least(rule_machine(2, rules[0]))
        self.assertEqual(slow_form(late, "a" * 41 + "ba"), "a" * 123 + "baaa")
        self.assertEqual(max(len(out) for _, row in own_behind(late, one)[2] for out, _ in row), 180)
        paper = own_paper(rules, [one, one], [late, list_machine(2, rules)])
        self.assertEqual(max(len(left2) for _, _, (_, left2) in paper[1][3]), 171)
        self.assertIs(is_paper(2, rules, paper), True)
        for table in ([], paper[1][3][:-1], paper[1][3][1:]):
            self.assertIs(is_paper(2, rules, paper[:1] + [paper[1][:3] + (table,)]), False)

    def test_errors_in_order(self):
        for k in BAD_NUMBERS:
            for rules in ((), BAD_LISTS[0]):
                with self.assertRaises(BadNumber):
                    is_paper(k, rules, [])
        for rules in BAD_LISTS:
            with self.assertRaises(NotRule):
                is_paper(2, rules, [])
        for rules in (SIXTY_ONE, MANY_STATES):
            self.assertIs(is_paper(2, rules, []), False)

    def test_rules_that_are_none(self):
        signs = ("", "a", "b", "c", "#", "ab", "ba", "aa", "abc", "bab", "aaaa", " ")
        contexts = [()] + [(one,) for one in signs] + [(one, two) for one in signs for two in signs] + [("a",) * 3]
        rules = [(letter, new, left, ()) for letter in signs for new in signs for left in contexts[::5]]
        rules += [("a", "b", left, ()) for left in contexts] + [("a", "b", (), right) for right in contexts]
        for rule in rules:
            if is_rules(2, (rule,)):
                self.assertIs(is_paper(2, (rule,), []), False)
            else:
                with self.assertRaises(NotRule):
                    is_paper(2, (rule,), [])

    def test_speed(self):
        source = random.Random(2631)
        begin = process_time()
        rules = some_list(source, 6, 1) + tuple(small_rule(source, 6) for _ in range(7))
        self.assertIs(is_paper(6, rules, paper_of(6, rules)), True)
        self.assertLess(process_time() - begin, 10)


class ShownTest(unittest.TestCase):
    def test_example(self):
        rules = read_rules(2, "a > b / _ b")
        self.assertEqual(shown(2, rules, (), ("apart", "ab")), "apart")
        self.assertEqual(shown(2, rules, (), ("apart", "ba")), "none")
        self.assertEqual(shown(2, (), rules, ("apart", "ab")), "apart")

    def test_answers_of_the_program(self):
        source = random.Random(2620)
        found = {"alike": 0, "apart": 0}
        for _ in range(150):
            k = source.choice((2, 2, 3))
            one = tuple(small_rule(source, k) for _ in range(source.randint(0, 4)))
            other = one[::-1] if source.random() < 0.6 else one[1:]
            answer = decide(k, one, other)
            self.assertEqual(shown(k, one, other, answer), answer[0])
            self.assertEqual(shown(k, other, one, answer if answer[0] == "apart" else decide(k, other, one)), answer[0])
            found[answer[0]] += 1
        self.assertGreater(min(found.values()), 30)

    def test_words(self):
        source = random.Random(2621)
        for _ in range(60):
            one, other = some_list(source, 2, 3), some_list(source, 2, 3)
            for word in words_up_to(2, 5)[::3]:
                self.assertEqual(shown(2, one, other, ("apart", word)),
                                 "none" if slow_list(one, word) == slow_list(other, word) else "apart")

    def test_long_words(self):
        rule = read_rules(2, "a > b / _ #")
        for many, expected in ((0, "apart"), (31, "apart"), (32, "apart"), (1999, "apart"), (2000, "none"),
                               (5000, "none")):
            self.assertEqual(shown(2, rule, (), ("apart", "b" * many + "a")), expected, many)
        source = random.Random(2622)
        for _ in range(100):
            k = source.choice((2, 3))
            one, other = some_list(source, k, 3), some_list(source, k, 3)
            word = "".join(source.choice(LETTERS[:k]) for _ in range(source.choice((31, 32, 33, 34, 64, 65, 200))))
            self.assertEqual(shown(k, one, other, ("apart", word)),
                             "none" if slow_list(one, word) == slow_list(other, word) else "apart")

    def test_rules_at_each_index_of_long_words(self):
        for left in ((), ("a",), ("a", "a"), ("a", "b"), ("#", "a"), ("#",)):
            for right in ((), ("a",), ("a", "a"), ("b", "a"), ("a", "#"), ("#",)):
                for new in ("a", "", "bab"):
                    rule = ("b", new, left, right)
                    for at in (0, 1, 2, 29, 30, 31, 32, 33, 34, 61, 62, 63, 64, 65, 66):
                        word = "a" * at + "b" + "a" * (66 - at)
                        for given in (word, word[:33], word[:65]):
                            expected = "none" if slow_list((rule,), given) == given else "apart"
                            self.assertEqual(shown(2, (rule,), (), ("apart", given)), expected, (rule, given))

    def test_other_words(self):
        rules = read_rules(2, "a > b / _")
        for word in ("c", "ac", "a ", "A", "a\n", "#a", "\u00e4", "-", None, 7, ["a"], ("a",)):
            self.assertEqual(shown(2, rules, (), ("apart", word)), "none", word)
        self.assertEqual(shown(3, rules, (), ("apart", "ac")), "apart")

    def test_other_first_parts(self):
        rules = read_rules(2, "a > b / _")
        alike = decide(2, rules, rules)
        for part in ("none", "", "Alike", "APART", "alike ", 0, None):
            self.assertEqual(shown(2, rules, (), (part, "a")), "none")
            self.assertEqual(shown(2, rules, rules, (part,) + alike[1:]), "none")
        self.assertEqual(shown(2, rules, (), ("alike", "a")), "none")
        self.assertEqual(shown(2, rules, rules, ("apart",) + alike[1:]), "none")
        for answer in ((), ("apart",), ("alike",), ("apart", "a", "a"), alike[:3], alike + ([],), ["apart", "a"],
                       list(alike), "apart", None, ("alike", [(0, 0, ("", ""))])):
            self.assertEqual(shown(2, rules, (), answer), "none", answer)
            self.assertEqual(shown(2, rules, rules, answer), "none", answer)

    def test_one_thing_changed(self):
        kind, paper, paper2, table = decide(2, RULES, LONGER)
        self.assertEqual(shown(2, RULES, LONGER, (kind, paper, paper2, table)), "alike")
        for answer in ((kind, paper2, paper, table), (kind, paper, paper, table), (kind, paper2, paper2, table),
                       (kind, table, paper, paper2), (kind, paper[:1], paper2, table), (kind, paper, paper2[:2], table),
                       (kind, [], [], table), (kind, paper, paper2, []), (kind, paper, paper2, None)):
            self.assertEqual(shown(2, RULES, LONGER, answer), "none")
        for given in changed_entries(table):
            self.assertEqual(shown(2, RULES, LONGER, (kind, paper, paper2, given)), "none", given)
        self.assertEqual(shown(2, LONGER, RULES, (kind, paper, paper2, table)), "none")
        self.assertEqual(shown(2, RULES, RULES, (kind, paper, paper2, table)), "none")
        self.assertEqual(shown(2, RULES, RULES, (kind, paper, paper, table)), "alike")

    def test_a_table_turned_round(self):
        rules = (("a", "b", (), ("a",)),)
        late = own_paper(rules, [rule_machine(2, rules[0])], [rule_machine(2, rules[0])])
        early = paper_of(2, rules)
        table = own_table(late[0][2], early[0][2])
        around = [(t, s, (y, x)) for s, t, (x, y) in table]
        self.assertEqual(shown(2, rules, rules, ("alike", late, early, table)), "alike")
        self.assertEqual(shown(2, rules, rules, ("alike", early, late, around)), "alike")
        self.assertEqual(shown(2, rules, rules, ("alike", late, early, around)), "none")
        self.assertEqual(shown(2, rules, rules, ("alike", early, late, table)), "none")

    def test_no_answers_contradict(self):
        source = random.Random(2623)
        for _ in range(100):
            one = tuple(small_rule(source, 2) for _ in range(source.randint(1, 3)))
            other = one[1:]
            papers = paper_of(2, one), paper_of(2, other)
            machines = list_machine(2, one), list_machine(2, other)
            table = least_table(machines[0], machines[1])
            told = shown(2, one, other, ("alike", papers[0], papers[1], table or [(0, 0, ("", ""))]))
            words = {shown(2, one, other, ("apart", word)) for word in words_up_to(2, 5)}
            self.assertEqual((told, words), ("alike", {"none"}) if table else ("none", {"none", "apart"}))

    def test_errors_in_order(self):
        for k in BAD_NUMBERS:
            with self.assertRaises(BadNumber):
                shown(k, BAD_LISTS[0], BAD_LISTS[0], ("apart", "a"))
        for rules in BAD_LISTS:
            for one, other in ((rules, ()), ((), rules), (rules, rules)):
                with self.assertRaises(NotRule):
                    shown(2, one, other, ("apart", "a"))
        # Lists whose machines are too large are shown to be apart, too.
        word = next(word for word in words_up_to(2, 9) if slow_list(MANY_STATES, word) != word)
        self.assertEqual(shown(2, MANY_STATES, (), ("apart", word)), "apart")
        self.assertEqual(shown(2, SIXTY_ONE, (), ("apart", "a")), "apart")

    def test_words_that_become_very_long(self):
        begin = process_time()
        grow = tuple(("a", "aaa", (), ("a",)) for _ in range(8))
        other = grow[:7] + (("a", "aaa", ("a",), ()),)
        self.assertEqual(shown(2, grow, other, ("apart", "a" * 2000)), "none")
        self.assertEqual(shown(2, grow, grow[:7] + (("a", "aaa", (), ("ab",)),), ("apart", "ab" * 1000)), "apart")
        mixed = (("a", "aba", (), ("ab",)), ("b", "bab", ("ab",), ())) * 4
        self.assertEqual(shown(2, mixed, mixed, ("apart", "abaabbab" * 250)), "none")
        self.assertLess(process_time() - begin, 20)


class TableTest(unittest.TestCase):
    def test_tables_of_the_program(self):
        source = random.Random(2632)
        for _ in range(100):
            k = source.choice((2, 3))
            machine = rule_machine(k, small_rule(source, k))
            for one, other in ((machine, least(machine)), (least(machine), machine), (machine, machine)):
                table = least_table(one, other)
                self.assertIs(table_shown(one, other, table), True)
                for given in list(changed_entries(table))[::7]:
                    self.assertIs(table_shown(one, other, given), is_closed(one, other, given))
                around = [(t, s, (y, x)) for s, t, (x, y) in table]
                self.assertIs(table_shown(other, one, around), True)
                self.assertIs(table_shown(one, other, around), is_closed(one, other, around))

    def test_one_thing_changed(self):
        table = least_table(MACHINE, least(MACHINE))
        self.assertIs(table_shown(MACHINE, least(MACHINE), table), True)
        self.assertIs(table_shown(MACHINE, least(MACHINE), table[::-1]), True)
        for given in [*changed_entries(table), [], tuple(table), None, "table", [()], [table], [(0, 0)], [(0, 0, ())],
                      table + [(0, 0, ("",))], table + [(0, 0, ("", "", ""))], table + [(0, 0, ["", ""])],
                      table + [("0", 0, ("", ""))], table + [(0, None, ("", ""))], table + [(0, 0, ("", 0))],
                      table + [(0, 0, (0, ""))], table + [[0, 0, ("", "")]], [list(entry) for entry in table]]:
            self.assertIs(table_shown(MACHINE, least(MACHINE), given), False, given)
        for machine in changed_machines(least(MACHINE)):
            if machine not in NO_MACHINES and machine[0] == 2 and len(machine[2]) == 2:
                try:
                    self.assertIs(table_shown(MACHINE, machine, table), False)
                except NotMachine:
                    pass

    def test_tuples_that_only_follow_one_another(self):
        begin = [(0, 0, ("", ""))]
        self.assertIs(table_shown(still(2), still(2), begin), True)
        for entry in ((-1, 0, ("", "")), (0, -1, ("", "")), (-1, -1, ("", "")), (0, 0, ("a", "a")), (0, 1, ("", ""))):
            self.assertIs(table_shown(still(2), still(2), begin + [entry]), False, entry)
        changes_end = (2, "", (("a", (("a", 0), ("b", 0))),))
        self.assertIs(table_shown(still(2), changes_end, begin), False)

    def test_numbers_of_letters(self):
        for k in range(2, 7):
            for k2 in range(2, 7):
                self.assertIs(table_shown(still(k), still(k2), [(0, 0, ("", ""))]), k == k2)

    def test_large_tables(self):
        table = [(at % 2000, at % 3, ("", "")) for at in range(6000)]
        self.assertIs(table_shown(ring(2000), ring(3), table), True)
        self.assertIs(table_shown(ring(2000), ring(3), table[:-1]), False)

    def test_errors(self):
        for bad in NO_MACHINES:
            for one, other in ((bad, MACHINE), (MACHINE, bad), (bad, bad)):
                with self.assertRaises(NotMachine):
                    table_shown(one, other, [])
        source = random.Random(2633)
        machine = some_machine(source, 6, 2000, 60)
        self.assertIs(table_shown(machine, machine, [(at, at, ("", "")) for at in range(2000)]), True)


class PairTest(unittest.TestCase):
    def test_by_words(self):
        words = words_up_to(2, 3)
        for machine in (MACHINE, least(MACHINE), ring(3), rule_machine(2, ("a", "", (), ()))):
            for one in words:
                for other in words:
                    expected = one != other and slow_form(machine, one) == slow_form(machine, other)
                    self.assertIs(pair_shown(machine, one, other), expected)
        self.assertIs(pair_shown(MACHINE, "aa", "ba"), True)

    def test_words_of_the_program(self):
        source = random.Random(264)
        for _ in range(100):
            machine = rule_machine(2, small_rule(source, 2))
            pair = two_words(machine)
            if pair is not None:
                self.assertIs(pair_shown(machine, pair[0], pair[1]), True)
                self.assertIs(pair_shown(machine, pair[1], pair[0]), True)
                self.assertIs(pair_shown(machine, pair[0], pair[0]), False)

    def test_words_of_any_length(self):
        begin = "ab" * 50000
        self.assertIs(pair_shown(MACHINE, begin + "aa", begin + "ba"), True)
        self.assertIs(pair_shown(MACHINE, begin + "aa", begin + "ab"), False)
        for one, other in (("aac", "bac"), ("aa", "ba "), ("c", "d"), ("aa", "BA"), ("", "#"), ("aa\n", "ba\n")):
            self.assertIs(pair_shown(MACHINE, one, other), False)

    def test_errors(self):
        for bad in NO_MACHINES:
            with self.assertRaises(NotMachine):
                pair_shown(bad, "a", "b")


class PlacesTest(unittest.TestCase):
    def test_lists_of_the_program(self):
        source = random.Random(2640)
        found = [0, 0]
        for _ in range(300):
            k = source.choice((2, 2, 3))
            machine = some_machine(source, k, source.randint(1, 3), 3)
            if source.random() < 0.5:
                machine = rule_machine(k, small_rule(source, k))
            places = closed_places(machine)
            found[places is None] += 1
            if places is not None:
                self.assertIs(places_shown(machine, places), True)
                self.assertIs(places_shown(machine, places[::-1]), True)
                for given in list(changed_entries(places))[::11]:
                    self.assertIs(places_shown(machine, given), is_closed_list(machine, given), given)
            else:
                self.assertIs(places_shown(machine, []), False)
        self.assertGreater(min(found), 50)

    def test_ordinary(self):
        self.assertIs(places_shown(still(2), closed_places(still(2))), True)
        self.assertIs(places_shown(still(2), [(-1, 0, ("", "a")), (-1, 0, ("", "b"))]), True)
        # Places that nothing leads to may stand there, too.
        self.assertIs(places_shown(still(2), [(-1, 0, ("", "a")), (-1, 0, ("", "b")), (0, -1, ("b", ""))]), True)
        self.assertIs(places_shown(still(2), [(-1, 0, ("", "a")), (-1, 0, ("", "b")), (-1, 0, ("", "c"))]), False)
        self.assertIs(places_shown(still(3), [(-1, 0, ("", "a")), (-1, 0, ("", "b")), (-1, 0, ("", "c"))]), True)
        self.assertIs(places_shown(still(2), [(-1, -1, ("", ""))]), False)
        self.assertIs(places_shown(still(2), [(-1, 0, ("", "a")), (-1, 0, ("", "b")), (-1, -1, ("", ""))]), False)
        self.assertIs(places_shown(MACHINE, []), False)
        # Of a state that no word reaches nothing is asked.
        unused = (2, "", still(2)[2] + (("", (("", 1), ("", 1))),))
        self.assertIs(places_shown(unused, closed_places(still(2))), True)

    def test_states_that_long_words_reach(self):
        for merging in range(5):
            rows = [("", (("a", min(at + 1, 4)), ("a" if at == merging else "b", min(at + 1, 4)))) for at in range(5)]
            copying = rows[:merging] + [("", (("a", min(merging + 1, 4)), ("b", min(merging + 1, 4))))]
            places = closed_places((2, "", tuple(copying + rows[merging + 1:])))
            self.assertIs(places_shown((2, "", tuple(copying + rows[merging + 1:])), places), True)
            self.assertIs(places_shown((2, "", tuple(rows)), places), False)

    def test_places_that_are_done_or_none(self):
        begin = closed_places(still(2))
        for place in ((-1, -1, ("", "")), (0, 0, ("a", "a")), (-2, -2, ("", "")), (0, 1, ("a", "")),
                      (-1, -1, ("a", "a"))):
            self.assertIs(places_shown(still(2), begin + [place]), False, place)
        self.assertIs(places_shown(still(2), begin + [(-1, -1, ("a", ""))]), True)

    def test_one_thing_changed(self):
        machine = rule_machine(2, ("a", "ba", (), ("b",)))
        places = closed_places(machine)
        self.assertGreater(len(places), 4)
        for given in changed_entries(places):
            self.assertIs(places_shown(machine, given), False, given)
        for given in ([], places[:-1], places[1:], tuple(places), None, "places", [()], [(0, 0)], [(0, 0, ())],
                      places + [(0, 0, ("", "", ""))], places + [[0, 0, ("", "")]], places + [(0, 0, ["", ""])],
                      places + [("0", 0, ("", ""))], places + [(0, 0, (0, ""))], places + [(0, 0, ("", 0))],
                      [list(place) for place in places], places + [(0, 0, ("a", "a"))], places + [(-2, 0, ("", ""))],
                      places + [(0, len(machine[2]), ("", ""))], places + [(0, 0, ("c", ""))]):
            self.assertIs(places_shown(machine, given), False, given)

    def test_no_closed_list_where_two_words_have_one_form(self):
        source = random.Random(2641)
        for _ in range(200):
            machine = some_machine(source, 2, 2, 1)
            if two_words(machine) is not None:
                # All places whose words are short, without the one that is done, are still not closed.
                words = [(left, "") for left in words_up_to(2, 2)] + [("", left) for left in words_up_to(2, 2)[1:]]
                places = [(s, t, pair) for s in range(-1, 2) for t in range(-1, 2) for pair in words]
                places.remove((-1, -1, ("", "")))
                self.assertIs(places_shown(machine, places), False)

    def test_errors(self):
        for bad in NO_MACHINES:
            with self.assertRaises(NotMachine):
                places_shown(bad, [])

    def test_speed(self):
        begin = process_time()
        machine = list_machine(6, read_rules(6, "a > bc / ab cd _ ef ab ; f > ea / bd ce _ a b"))
        places = closed_places(machine)
        self.assertIs(places_shown(machine, places or []), places is not None)
        self.assertLess(process_time() - begin, 10)


if __name__ == "__main__":
    unittest.main()
