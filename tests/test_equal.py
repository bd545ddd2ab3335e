"""Leads, closed tables and first words whose forms differ: [100] to [106], and equal.py of the interface."""

import random
import unittest

from soundturns.equal import answer, first_word, is_answer, is_closed, lead, least_table, lists_alike
from soundturns.errors import BadNumber, NotMachine, NotRule, NotWord, TooLarge
from soundturns.least import early, least, same_forms
from soundturns.machines import still
from soundturns.making import list_machine, rule_machine
from tests.samples import (BAD_NUMBERS, LETTERS, MACHINE, first_in_order, read_slowly, ring, slow_form,
                           some_machine, some_rule, words_up_to)
from tests.test_making import BAD_RULES, MANY_STATES, SIXTY_ONE

LEAST = (2, "", (("", (("", 1), ("b", 0))), ("a", (("b", 1), ("ab", 0)))))
TABLE = [(0, 0, ("", "")), (1, 1, ("", "")), (2, 0, ("", "b"))]
LOOKING = (least_table, first_word, answer)


def slow_lead(one, other, word):
    """Return the lead behind a word of any length, or None."""
    left = read_slowly(one, word)[0]
    right = read_slowly(other, word)[0]
    if left.startswith(right):
        return left[len(right):], ""
    return ("", right[len(left):]) if right.startswith(left) else None


def slow_table(one, other, longest):
    """Return the tuples of states and leads behind all words of at most so many letters, by first words."""
    return list(dict.fromkeys((read_slowly(one, word)[1], read_slowly(other, word)[1], slow_lead(one, other, word))
                              for word in words_up_to(one[0], longest)))


def alike_pairs(seed, many):
    """Return pairs of machines that change all words alike, written early and late."""
    source = random.Random(seed)
    found = []
    for _ in range(many):
        machine = rule_machine(2, some_rule(source, 2))
        found.extend([(machine, least(machine)), (least(machine), machine), (machine, early(machine)),
                      (machine, machine)])
    return found


def counters(most, most2, *, bad=None, aside=False):
    """Return two machines of three letters: one counts `a`, the other one `b`, up to a most.

    They change all words alike but for `c` in the state `bad` of the second one. If `aside` is True,
    `c` leads both of them to a state of their own, one pair more.
    """
    def counter(letter, most):
        rows = []
        for at in range(most + 1):
            outs = ["", "", "c" if letter == "b" and at == bad else ""]
            nexts = [at, at, most + 1 if aside else at]
            nexts["ab".index(letter)] = min(at + 1, most)
            rows.append(("", tuple(zip(outs, nexts))))
        rows.append(("", (("", most + 1),) * 3))
        return 3, "", tuple(rows)

    return counter("a", most), counter("b", most2)


class LeadTest(unittest.TestCase):
    def test_example(self):
        self.assertEqual(lead(MACHINE, LEAST, ""), ("", ""))
        self.assertEqual(lead(MACHINE, LEAST, "ab"), ("", "b"))
        self.assertEqual(lead(LEAST, MACHINE, "ab"), ("b", ""))
        self.assertEqual(lead(LEAST, MACHINE, "aba"), ("", ""))
        self.assertIsNone(lead(MACHINE, still(2), "aa"))
        self.assertEqual(lead((2, "ab", still(2)[2]), (2, "a", still(2)[2]), ""), ("b", ""))
        self.assertEqual(lead((2, "ab", still(2)[2]), (2, "a", still(2)[2]), "b"), ("b", ""))
        self.assertIsNone(lead((2, "ab", still(2)[2]), (2, "a", still(2)[2]), "a"))
        self.assertEqual(lead((2, "bb", still(2)[2]), (2, "b", still(2)[2]), "b" * 60), ("b", ""))

    def test_all_short_words(self):
        source = random.Random(100)
        for _ in range(200):
            k = source.choice((2, 3))
            one, other = some_machine(source, k, 3, 2), some_machine(source, k, 2, 2)
            for word in words_up_to(k, 4):
                told = lead(one, other, word)
                self.assertEqual(told, slow_lead(one, other, word))
                if told is None:
                    self.assertNotEqual(slow_form(one, word), slow_form(other, word))
                else:
                    self.assertIn("", told)

    def test_errors_in_order(self):
        bad = ring(2001)
        for word in ("", "c", "a" * 61):
            for one, other, error in ((bad, still(3), NotMachine), (still(3), bad, NotMachine),
                                      (bad, bad, NotMachine), (still(2), still(3), BadNumber)):
                with self.assertRaises(error):
                    lead(one, other, word)
        for word in ("c", "a" * 61, "#"):
            with self.assertRaises(NotWord):
                lead(still(2), MACHINE, word)
        self.assertEqual(lead(ring(2000), still(2), "a" * 60), ("", "a" * 60))


class ClosedTest(unittest.TestCase):
    def test_example(self):
        self.assertIs(is_closed(MACHINE, LEAST, TABLE), True)
        self.assertIs(is_closed(MACHINE, LEAST, TABLE[::-1]), True)
        self.assertIs(is_closed(LEAST, MACHINE, [(t, s, (y, x)) for s, t, (x, y) in TABLE]), True)
        self.assertIs(is_closed(LEAST, MACHINE, TABLE), False)

    def test_an_entry_left_out_or_doubled(self):
        for one, other in alike_pairs(101, 20):
            table = least_table(one, other)
            self.assertIs(is_closed(one, other, table), True)
            for at in range(len(table)):
                self.assertIs(is_closed(one, other, table[:at] + table[at + 1:]), False)
                self.assertIs(is_closed(one, other, table + [table[at]]), False)
                self.assertIs(is_closed(one, other, [table[at]] + table), False)
        self.assertIs(is_closed(MACHINE, LEAST, []), False)

    def test_an_entry_added(self):
        for entry in ((0, 0, ("a", "")), (1, 0, ("", "")), (0, 1, ("", "")), (2, 0, ("", "")), (2, 0, ("b", "")),
                      (2, 0, ("", "bb")), (0, 0, ("a", "a")), (0, 1, ("a", "")), (2, 0, ("#", "")), (2, 0, ("", "c"))):
            self.assertIs(is_closed(MACHINE, LEAST, TABLE + [entry]), False, entry)

    def test_entries_more_than_needed(self):
        # The states 1 and 2 of the first machine are reached by no word, but hold what the table asks for.
        one = (2, "", (("", (("a", 0), ("b", 0))), ("ab", (("aba", 1), ("abb", 1))), ("", (("a", 0), ("b", 1)))))
        other = still(2)
        least_one = [(0, 0, ("", ""))]
        self.assertEqual(least_table(one, other), least_one)
        self.assertIs(is_closed(one, other, least_one), True)
        # x followed by `last` of s must be y followed by `last` of t.
        self.assertIs(is_closed(one, other, least_one + [(1, 0, ("", "ab"))]), False)
        other = (2, "", (("", (("a", 0), ("b", 0))), ("", (("a", 1), ("b", 1)))))
        self.assertIs(is_closed(other, other, [(0, 0, ("", "")), (1, 1, ("", ""))]), True)
        self.assertIs(is_closed(other, other, [(0, 0, ("", "")), (0, 1, ("", "")), (1, 0, ("", ""))]), True)
        late = (2, "", (("", (("a", 0), ("b", 0))), ("ab", (("ab", 1), ("ab", 1))), ("", (("", 2), ("", 2)))))
        self.assertIs(is_closed(late, late, [(0, 0, ("", "")), (1, 1, ("", ""))]), True)
        self.assertIs(is_closed(late, late, [(0, 0, ("", "")), (1, 1, ("a", ""))]), False)
        self.assertIs(is_closed(late, late, [(0, 0, ("", "")), (1, 2, ("", "ab"))]), False)
        begun = (2, "", (("", (("a", 0), ("b", 0))), ("ab", (("", 1), ("", 1))), ("", (("", 2), ("", 2)))))
        self.assertIs(is_closed(begun, begun, [(0, 0, ("", "")), (1, 2, ("", "ab"))]), True)
        self.assertIs(is_closed(begun, begun, [(2, 1, ("ab", "")), (0, 0, ("", ""))]), True)
        self.assertIs(is_closed(begun, begun, [(0, 0, ("", "")), (1, 2, ("b", "bab"))]), False)

    def test_states_that_there_are_not(self):
        for state in (-1, -2, -3, 3, 10 ** 40, -10 ** 40):
            for entry in ((state, 0, ("", "")), (0, state, ("", "")), (state, state, ("", ""))):
                self.assertIs(is_closed(MACHINE, LEAST, TABLE + [entry]), False)
                self.assertIs(is_closed(MACHINE, LEAST, [entry] + TABLE), False)
                self.assertIs(is_closed(MACHINE, LEAST, [entry]), False)
                for at in range(3):
                    self.assertIs(is_closed(MACHINE, LEAST, TABLE[:at] + [entry] + TABLE[at + 1:]), False)
                # What such a state would lead to stands in the table.
                self.assertIs(is_closed(still(2), still(2), [(0, 0, ("", "")), entry]), False)

    def test_any_strings(self):
        for words in (("x", ""), ("", "#"), ("ab", "ab"), ("", "b" * 5000), ("b", ""), ("", "\u00e9")):
            for at in range(3):
                state, state2, _ = TABLE[at]
                self.assertIs(is_closed(MACHINE, LEAST, TABLE[:at] + [(state, state2, words)] + TABLE[at + 1:]),
                              False)

    def test_forms_that_differ(self):
        source = random.Random(102)
        for _ in range(200):
            one, other = some_machine(source, 2, 2, 1), some_machine(source, 2, 2, 1)
            table = [entry for entry in slow_table(one, other, 6) if entry[2] is not None]
            self.assertIs(is_closed(one, other, table), same_forms(one, other))

    def test_the_beginning_must_fit(self):
        self.assertIs(is_closed((2, "a", still(2)[2]), still(2), [(0, 0, ("a", ""))]), False)
        self.assertIs(is_closed((2, "a", still(2)[2]), still(2), [(0, 0, ("", ""))]), False)
        self.assertIs(is_closed((2, "a", still(2)[2]), (2, "b", still(2)[2]), []), False)
        nothing = (2, "", (("ab", (("", 0), ("", 0))),))
        begun = (2, "ab", (("", (("", 0), ("", 0))),))
        self.assertIs(is_closed(nothing, begun, [(0, 0, ("", "ab"))]), True)
        self.assertIs(is_closed(begun, nothing, [(0, 0, ("ab", ""))]), True)
        self.assertIs(is_closed(begun, nothing, [(0, 0, ("", "ab"))]), False)


class LeastTableTest(unittest.TestCase):
    def test_example(self):
        self.assertEqual(least_table(MACHINE, LEAST), TABLE)
        self.assertEqual(least_table(still(6), still(6)), [(0, 0, ("", ""))])
        self.assertIsNone(least_table(MACHINE, still(2)))

    def test_the_tuples_behind_all_words(self):
        for one, other in alike_pairs(103, 30):
            table = least_table(one, other)
            self.assertEqual(table, slow_table(one, other, 7))
            self.assertEqual(len({(s, t) for s, t, _ in table}), len(table))
            self.assertIsNone(first_word(one, other))
            self.assertEqual(answer(one, other), ("alike", table))
            self.assertIs(is_answer(one, other, ("alike", table)), True)

    def test_no_list_is_shared(self):
        least_table(MACHINE, LEAST).append("x")
        answer(MACHINE, LEAST)[1].append("x")
        self.assertEqual(least_table(MACHINE, LEAST), TABLE)
        self.assertEqual(answer(MACHINE, LEAST), ("alike", TABLE))
        table = list(TABLE)
        self.assertTrue(is_closed(MACHINE, LEAST, table))
        self.assertEqual(table, TABLE)


class FirstWordTest(unittest.TestCase):
    def test_ordinary(self):
        self.assertEqual(first_word(MACHINE, still(2)), "aa")
        self.assertEqual(first_word(still(2), (2, "a", still(2)[2])), "")
        self.assertEqual(first_word(still(2), (2, "", (("a", (("a", 0), ("b", 0))),))), "")
        self.assertEqual(first_word(still(3), rule_machine(3, ("c", "b", ("b",), ("#",)))), "bc")
        self.assertEqual(first_word((2, "a", still(2)[2]), (2, "b", still(2)[2])), "")

    def test_a_word_without_a_lead_is_the_first_one(self):
        # Behind `b` there is no lead; behind `ab` the forms differ by `last` alone.
        one = (2, "", (("", (("", 1), ("a", 0))), ("", (("", 1), ("", 2))), ("a", (("", 1), ("", 2)))))
        other = (2, "", (("", (("", 1), ("b", 0))), ("", (("", 1), ("", 2))), ("", (("", 1), ("", 2)))))
        self.assertEqual(first_word(one, other), "b")

    def test_all_short_words(self):
        source = random.Random(104)
        found = {True: 0, False: 0}
        for _ in range(3000):
            one, other = some_machine(source, 2, 2, 1), some_machine(source, 2, 2, 1)
            expected = first_in_order([word for word in words_up_to(2, 4)
                                       if slow_form(one, word) != slow_form(other, word)])
            self.assertEqual(first_word(one, other), expected)
            self.assertEqual(least_table(one, other) is None, expected is not None)
            self.assertEqual(answer(one, other)[0], "alike" if expected is None else "apart")
            self.assertIs(is_answer(one, other, answer(one, other)), True)
            found[expected is None] += 1
        self.assertGreater(found[True], 5)

    def test_one_change_in_a_machine(self):
        source = random.Random(105)
        for _ in range(200):
            k, first, rows = least(rule_machine(3, some_rule(source, 3)))
            at = source.randrange(len(rows))
            changed = rows[:at] + ((rows[at][0] + "a", rows[at][1]),) + rows[at + 1:]
            other = (k, first, changed)
            expected = first_in_order([word for word in words_up_to(3, 4)
                                       if slow_form((k, first, rows), word) != slow_form(other, word)])
            self.assertEqual(first_word((k, first, rows), other), expected)
            self.assertEqual(answer((k, first, rows), other), ("apart", expected))

    def test_a_long_first_word(self):
        rows = ring(2000)[2]
        other = (2, "", rows[:1999] + (("a", rows[1999][1]),))
        self.assertEqual(first_word(ring(2000), other), "a" * 1999)
        self.assertEqual(first_word(ring(1), other), "a" * 1999)


class BoundTest(unittest.TestCase):
    def test_pairs_of_machines_that_are_alike(self):
        for one, other, pairs in ((32, 125, 4000), (2, 1999, 3998), (1, 2000, 2000), (2000, 2000, 2000)):
            table = [(at % one, at % other, ("", "")) for at in range(pairs)]
            self.assertEqual(least_table(ring(one), ring(other)), table)
            self.assertIsNone(first_word(ring(one), ring(other)))
            self.assertEqual(answer(ring(one), ring(other)), ("alike", table))
        for one, other in ((63, 64), (3, 1334), (2000, 3), (2000, 1999)):
            for call in LOOKING:
                with self.assertRaises(TooLarge):
                    call(ring(one), ring(other))

    def test_exactly_one_pair_more(self):
        one, other = counters(31, 124)
        self.assertEqual(len(least_table(one, other)), 4000)
        one, other = counters(31, 124, aside=True)
        for call in LOOKING:
            with self.assertRaises(TooLarge):
                call(one, other)

    def test_a_first_word_behind_many_pairs(self):
        # Before `b` 170 times and `c` all pairs are met whose counts are at most 171 together: 4000 of them.
        for most2 in (200, 1000):
            one, other = counters(24, most2, bad=170)
            word = "b" * 170 + "c"
            self.assertEqual(first_word(one, other), word)
            self.assertIsNone(least_table(one, other))
            self.assertEqual(answer(one, other), ("apart", word))
            one, other = counters(24, most2, bad=170, aside=True)
            for call in LOOKING:
                with self.assertRaises(TooLarge):
                    call(one, other)

    def test_a_first_word_before_many_pairs(self):
        one = ring(2000)
        rows = ring(1999)[2]
        for at in (0, 1, 1000, 1998):
            other = (2, "", rows[:at] + (("b", rows[at][1]),) + rows[at + 1:])
            for call, expected in ((first_word, "a" * at), (answer, ("apart", "a" * at)), (least_table, None)):
                self.assertEqual(call(one, other), expected)

    def test_closed_tables_are_not_bounded(self):
        table = [(at % 2000, at % 3, ("", "")) for at in range(6000)]
        self.assertIs(is_closed(ring(2000), ring(3), table), True)
        self.assertIs(is_closed(ring(2000), ring(3), table[:-1]), False)
        self.assertIs(is_answer(ring(2000), ring(3), ("alike", table)), True)

    def test_wide_machines(self):
        source = random.Random(106)
        machine = some_machine(source, 6, 2000, 60)
        self.assertIsNone(first_word(machine, machine))
        self.assertIs(is_closed(machine, least(machine), least_table(machine, least(machine))), True)


class AnswerTest(unittest.TestCase):
    def test_words(self):
        for word in words_up_to(2, 6):
            self.assertIs(is_answer(MACHINE, still(2), ("apart", word)),
                          slow_form(MACHINE, word) != word)
            self.assertIs(is_answer(MACHINE, LEAST, ("apart", word)), False)

    def test_words_of_any_length_and_any_strings(self):
        self.assertIs(is_answer(MACHINE, still(2), ("apart", "a" * 61)), True)
        self.assertIs(is_answer(MACHINE, still(2), ("apart", "ab" * 5000)), False)
        self.assertIs(is_answer(MACHINE, still(2), ("apart", "ab" * 5000 + "aa")), True)
        for word in ("aac", "c", "#", "aa ", " aa", "AA", "aa\n", "\u00e9aa", "aa-"):
            self.assertIs(is_answer(MACHINE, still(2), ("apart", word)), False, word)
        self.assertIs(is_answer(still(3), rule_machine(3, ("c", "", (), ())), ("apart", "c")), True)

    def test_tables(self):
        self.assertIs(is_answer(MACHINE, LEAST, ("alike", TABLE)), True)
        self.assertIs(is_answer(MACHINE, LEAST, ("alike", TABLE[:2])), False)
        self.assertIs(is_answer(MACHINE, LEAST, ("alike", TABLE + TABLE[:1])), False)
        self.assertIs(is_answer(MACHINE, LEAST, ("alike", [])), False)
        self.assertIs(is_answer(MACHINE, still(2), ("alike", [(0, 0, ("", ""))])), False)
        self.assertIs(is_answer(MACHINE, LEAST, ("alike", TABLE + [(-1, 7, ("x", "y"))])), False)

    def test_errors_in_order(self):
        bad = ring(2001)
        calls = [*LOOKING, lambda one, other: is_closed(one, other, [(9, 9, ("x", "y"))]),
                 lambda one, other: is_answer(one, other, ("apart", "x")),
                 lambda one, other: is_answer(one, other, ("alike", []))]
        for call in calls:
            for one, other, error in ((bad, still(3), NotMachine), (still(3), bad, NotMachine),
                                      (bad, bad, NotMachine), (still(2), still(3), BadNumber),
                                      (ring(2000, 3), ring(1999), BadNumber)):
                with self.assertRaises(error):
                    call(one, other)


class ListsTest(unittest.TestCase):
    def test_ordinary(self):
        rule = ("a", "b", (), ("b",))
        self.assertEqual(lists_alike(2, (rule,), ()), ("apart", "ab"))
        self.assertEqual(lists_alike(2, (), (rule,)), ("apart", "ab"))
        self.assertEqual(lists_alike(2, (), ()), ("alike", [(0, 0, ("", ""))]))
        self.assertEqual(lists_alike(2, (("a", "b", (), ()), rule), (("a", "b", (), ()),)),
                         ("alike", [(0, 0, ("", ""))]))

    def test_the_machines_of_the_lists(self):
        source = random.Random(107)
        for _ in range(100):
            k = source.choice((2, 3))
            rules = tuple(some_rule(source, k) for _ in range(source.randint(0, 3)))
            other = rules[::-1]
            machine, machine2 = list_machine(k, rules), list_machine(k, other)
            self.assertEqual(lists_alike(k, rules, other), answer(machine, machine2))
            self.assertEqual(lists_alike(k, rules, other)[0] == "alike", machine == machine2)

    def test_errors_in_order(self):
        bad = (BAD_RULES[0],)
        for k in BAD_NUMBERS:
            for one, other in (((), ()), (bad, bad), (SIXTY_ONE, bad)):
                with self.assertRaises(BadNumber):
                    lists_alike(k, one, other)
        for one, other, error in ((bad, SIXTY_ONE, NotRule), (bad, (), NotRule), ((), bad, NotRule),
                                  (SIXTY_ONE, bad, TooLarge), (MANY_STATES, bad, TooLarge),
                                  (SIXTY_ONE, (), TooLarge), ((), SIXTY_ONE, TooLarge), ((), MANY_STATES, TooLarge)):
            with self.assertRaises(error):
                lists_alike(2, one, other)

    def test_eight_rules_of_six_letters(self):
        source = random.Random(108)
        rules = tuple(some_rule(source, 6) for _ in range(8))
        self.assertEqual(lists_alike(6, rules, rules)[0], "alike")
        kind, word = lists_alike(6, rules, ())
        self.assertEqual(kind, "apart")
        self.assertNotEqual(slow_form(list_machine(6, rules), word), word)
        self.assertEqual(word.strip(LETTERS), "")


if __name__ == "__main__":
    unittest.main()
