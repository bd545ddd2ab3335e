"""Early machines and least machines: [80] to [86], and least.py of the interface."""

import random
import unittest
from os.path import commonprefix

from soundturns.errors import BadNumber, NotMachine, TooLarge
from soundturns.least import beginnings, early, is_early, least, reached, same_forms
from soundturns.machines import is_wide, still
from soundturns.making import behind, rule_machine
from tests.samples import (LETTERS, MACHINE, ring, slow_form, some_machine, some_rule, states_by_words,
                           words_up_to)

LEAST = (2, "", (("", (("", 1), ("b", 0))), ("a", (("b", 1), ("ab", 0)))))
ONE_EACH = (beginnings, is_early, early, reached, least)


def slow_beginnings(machine):
    """Return the common beginnings, shortened as long as a condition of [81] is broken."""
    found = [last for last, _ in machine[2]]
    old = None
    while found != old:
        old = list(found)
        for state, (_, entries) in enumerate(machine[2]):
            found[state] = commonprefix([found[state]] + [out + found[after] for out, after in entries])
    return found


def slow_rest(machine, state, word):
    """Return the rest of a word in a state."""
    told = ""
    for letter in word:
        out, state = machine[2][state][1][LETTERS.index(letter)]
        told += out
    return told + machine[2][state][0]


def nexts_of(machine):
    """Return the states behind each state."""
    return [[after for _, after in entries] for _, entries in machine[2]]


def slow_least(machine):
    """Return the least machine, by classes that are parted until nothing changes."""
    k, first, rows = machine
    begins = slow_beginnings(machine)
    parts = [(last[len(begins[state]):],) + tuple((out + begins[after])[len(begins[state]):] for out, after in entries)
             for state, (last, entries) in enumerate(rows)]
    nexts = nexts_of(machine)
    classes = list(parts)
    many = 0
    while len(set(classes)) > many:
        many = len(set(classes))
        keys = [(classes[state], tuple(classes[after] for after in nexts[state])) for state in range(len(rows))]
        numbers = {key: number for number, key in enumerate(dict.fromkeys(keys))}
        classes = [numbers[key] for key in keys]
    order = list(dict.fromkeys(classes[state] for state in states_by_words(nexts)))
    made = []
    for name in order:
        state = classes.index(name)
        made.append((parts[state][0], tuple((out, order.index(classes[after]))
                                            for out, after in zip(parts[state][1:], nexts[state]))))
    return k, first + begins[0], tuple(made)


def numbered_anew(source, machine):
    """Return the same machine with its states but the first one in another order."""
    k, first, rows = machine
    order = [0] + source.sample(range(1, len(rows)), len(rows) - 1)
    return k, first, tuple((rows[old][0], tuple((out, order.index(after)) for out, after in rows[old][1]))
                           for old in order)


def with_copies(source, machine):
    """Return a machine with each state twice, and with one state that no word reaches."""
    k, first, rows = machine
    many = len(rows)
    made = [(last, tuple((out, after + many * source.randint(0, 1)) for out, after in entries))
            for last, entries in rows + rows]
    return k, first, tuple(made) + (("ab", (("b", 0),) * k),)


def later(machine, state):
    """Return a machine that writes the first letter that is due before a state only behind it, or None.

    All ways to the state must end in the same letter; it is not the state 0.
    """
    k, first, rows = machine
    outs = [out for _, entries in rows for out, after in entries if after == state]
    if state == 0 or not outs or "" in outs or len({out[-1] for out in outs}) > 1:
        return None
    sign = outs[0][-1]
    made = []
    for at, (last, entries) in enumerate(rows):
        added = sign if at == state else ""
        made.append((added + last, tuple((added + (out[:-1] if after == state else out), after)
                                         for out, after in entries)))
    return k, first, tuple(made)


def machines_of(seed, many, length=3):
    """Return some machines of few states."""
    source = random.Random(seed)
    return [some_machine(source, source.choice((2, 2, 3)), source.randint(1, 5), source.randint(0, length))
            for _ in range(many)]


class BeginningsTest(unittest.TestCase):
    def test_example(self):
        self.assertEqual(beginnings(MACHINE), ["", "", "b"])
        self.assertIs(is_early(MACHINE), False)
        self.assertIs(is_early(LEAST), True)

    def test_the_rests_of_all_words(self):
        for machine in machines_of(80, 300):
            found = beginnings(machine)
            self.assertEqual(found, slow_beginnings(machine))
            self.assertIs(is_early(machine), set(found) == {""})
            words = words_up_to(machine[0], 5)
            for state, begin in enumerate(found):
                self.assertEqual(commonprefix([slow_rest(machine, state, word) for word in words]), begin)

    def test_what_is_shortened_again_and_again(self):
        # Each look takes away one letter of the state behind.
        rows = [("a" * 60, (("", at + 1), ("a", at))) for at in range(60)]
        machine = (2, "", tuple(rows) + (("", (("", 60), ("", 60))),))
        self.assertEqual(beginnings(machine), [""] * 61)
        rows = [("a" * 60, (("a", at + 1), ("a" * 60, at))) for at in range(40)]
        machine = (2, "", tuple(rows) + (("b", (("", 40), ("", 40))),))
        self.assertEqual(beginnings(machine), ["a" * (40 - at) for at in range(40)] + ["b"])

    def test_states_that_no_word_reaches(self):
        machine = (2, "", (("", (("a", 0), ("b", 0))), ("ab", (("abb", 1), ("aba", 1)))))
        self.assertEqual(beginnings(machine), ["", "ab"])
        self.assertIs(is_early(machine), False)
        self.assertIs(is_early(least(machine)), True)

    def test_never_too_large(self):
        machine = (2, "a" * 60, (("a" * 60, (("a" * 60, 0), ("a" * 60, 0))),))
        self.assertEqual(beginnings(machine), ["a" * 60])
        self.assertIs(is_early(machine), False)
        self.assertEqual(reached(machine), [0])
        self.assertEqual(beginnings(ring(2000, 6, "f" * 60)), ["f" * 60] * 2000)
        self.assertEqual(is_early(ring(2000, 6, "")), True)


class EarlyTest(unittest.TestCase):
    def test_example(self):
        made = early(MACHINE)
        self.assertEqual(made, (2, "", (("", (("", 1), ("b", 2))), ("a", (("b", 1), ("ab", 2))),
                                        ("", (("", 1), ("b", 2))))))

    def test_words_and_states(self):
        for machine in machines_of(82, 300):
            begins = slow_beginnings(machine)
            made = early(machine)
            self.assertEqual((made[0], made[1], len(made[2])), (machine[0], machine[1] + begins[0], len(begins)))
            for state, (last, entries) in enumerate(machine[2]):
                self.assertEqual(begins[state] + made[2][state][0], last)
                for (out, after), (out2, after2) in zip(entries, made[2][state][1]):
                    self.assertEqual((begins[state] + out2, after2), (out + begins[after], after))
            self.assertTrue(is_early(made))
            self.assertEqual(early(made), made)
            for word in words_up_to(machine[0], 4):
                self.assertEqual(slow_form(made, word), slow_form(machine, word))

    def test_what_is_written_is_all_that_is_sure(self):
        for machine in machines_of(83, 100, 2):
            made = early(machine)
            for word in words_up_to(machine[0], 2):
                forms = [slow_form(machine, word + more) for more in words_up_to(machine[0], 5)]
                told = slow_form(made, word)
                state = 0
                for letter in word:
                    state = made[2][state][1][LETTERS.index(letter)][1]
                self.assertEqual(told[:len(told) - len(made[2][state][0])], commonprefix(forms))

    def test_long_words(self):
        def due(out, many):
            """Return a machine that writes `out` before a state that begins with so many letters `b`."""
            begin = "b" * many
            return 2, "", (("", ((out, 1), ("", 0))), (begin + "a", ((begin + "a", 1), (begin + "b", 1))))

        made = (2, "", (("", (("a" * 30 + "b" * 30, 1), ("", 0))),
                        ("a", (("a" + "b" * 30, 1), ("b" + "b" * 30, 1)))))
        for call in (early, least):
            self.assertEqual(call(due("a" * 30, 30)), made)
            for out, many in (("a" * 31, 30), ("a" * 30, 31)):
                with self.assertRaises(TooLarge):
                    call(due(out, many))
        # What is taken away at the beginning makes room.
        for many in (32, 33):
            machine = (2, "", (("aa", (("a" * many, 1), ("aa", 0))), ("b" * 30, (("b" * 30, 1),) * 2)))
            if many == 32:
                self.assertEqual(early(machine)[2][0][1][0], ("a" * 30 + "b" * 30, 1))
                self.assertEqual(least(machine)[2][0][1][0], ("a" * 30 + "b" * 30, 1))
            else:
                for call in (early, least):
                    with self.assertRaises(TooLarge):
                        call(machine)

    def test_a_long_first_word(self):
        for many in (20, 21):
            machine = (2, "a" * 40, (("b" * many, (("b" * many, 0), ("b" * many, 0))),))
            for call in (early, least):
                if many == 20:
                    self.assertEqual(call(machine)[1], "a" * 40 + "b" * 20)
                else:
                    with self.assertRaises(TooLarge):
                        call(machine)

    def test_long_words_of_states_that_no_word_reaches(self):
        machine = (2, "", (("", (("a", 0), ("b", 0))), ("", (("a" * 59, 2), ("", 1))),
                           ("bb", (("bb", 2), ("bba", 2)))))
        self.assertEqual(least(machine), still(2))
        self.assertIs(same_forms(machine, still(2)), True)
        with self.assertRaises(TooLarge):
            early(machine)
        self.assertEqual(beginnings(machine), ["", "", "bb"])
        self.assertIs(is_early(machine), False)
        self.assertEqual(reached(machine), [0])


class ReachedTest(unittest.TestCase):
    def test_the_order_of_the_first_words(self):
        machine = (3, "", (("", (("", 4), ("", 2), ("", 0))), ("", (("", 1),) * 3),
                           ("", (("", 5), ("", 0), ("", 2))), ("", (("", 0), ("", 1), ("", 2))),
                           ("", (("", 4), ("", 4), ("", 3))), ("", (("", 5),) * 3)))
        self.assertEqual(reached(machine), [0, 4, 2, 3, 5, 1])
        for machine in machines_of(84, 200):
            words = states_by_words(nexts_of(machine))
            self.assertEqual(reached(machine), list(words))
            self.assertEqual(reached(least(machine)), list(range(len(least(machine)[2]))))
        self.assertEqual(reached(ring(2000)), list(range(2000)))
        self.assertEqual(reached((2, "", (("", (("", 1), ("", 1))),) * 2)), [0, 1])
        self.assertEqual(reached(still(6)), [0])


class LeastTest(unittest.TestCase):
    def test_example(self):
        self.assertEqual(least(MACHINE), LEAST)
        self.assertIs(same_forms(MACHINE, LEAST), True)

    def test_leastness(self):
        for machine in machines_of(85, 300):
            made = least(machine)
            self.assertEqual(made, slow_least(machine))
            self.assertTrue(is_early(made))
            self.assertTrue(is_wide(made))
            self.assertEqual(list(states_by_words(nexts_of(made))), list(range(len(made[2]))))
            self.assertEqual(least(made), made)
            for word in words_up_to(machine[0], 4):
                self.assertEqual(slow_form(made, word), slow_form(machine, word))

    def test_no_two_states_are_alike(self):
        for machine in machines_of(86, 100):
            made = least(machine)
            rests = [tuple(slow_rest(made, state, word) for word in words_up_to(made[0], 5))
                     for state in range(len(made[2]))]
            self.assertEqual(len(set(rests)), len(rests))

    def test_machines_that_change_all_words_alike(self):
        source = random.Random(87)
        postponed = 0
        for machine in machines_of(87, 200):
            made = least(machine)
            for other in (numbered_anew(source, machine), with_copies(source, machine), early(machine),
                          with_copies(source, made)):
                self.assertEqual(least(other), made)
                self.assertIs(same_forms(other, machine), True)
            for state in range(len(machine[2])):
                other = later(machine, state)
                if other is not None:
                    postponed += 1
                    self.assertEqual(least(other), made)
        self.assertGreater(postponed, 20)

    def test_equal_exactly_if_all_words_are_changed_alike(self):
        source = random.Random(88)
        found = {True: 0, False: 0}
        for _ in range(4000):
            one = some_machine(source, 2, 2, 1)
            other = some_machine(source, 2, 2, 1)
            # [104]: words of at most as many letters as there are pairs of states are enough.
            alike = all(slow_form(one, word) == slow_form(other, word) for word in words_up_to(2, 4))
            self.assertIs(same_forms(one, other), alike)
            self.assertIs(least(one) == least(other), alike)
            found[alike] += 1
        self.assertGreater(found[True], 5)
        self.assertGreater(found[False], 1000)

    def test_what_is_behind_depends_on_the_least_machines_alone(self):
        source = random.Random(89)
        for _ in range(60):
            one = some_machine(source, 2, 3, 2)
            other = some_machine(source, 2, 3, 2)
            self.assertEqual(least(behind(with_copies(source, one), numbered_anew(source, other))),
                             least(behind(least(one), least(other))))

    def test_machines_of_rules(self):
        source = random.Random(90)
        for k in (2, 3):
            for _ in range(60):
                machine = rule_machine(k, some_rule(source, k))
                self.assertEqual(least(machine), slow_least(machine))

    def test_wide_machines(self):
        self.assertEqual(least(ring(2000, 6, "")), (6, "", (("", (("", 0),) * 6),)))
        rows = list(ring(2000, 6, "")[2])
        rows[1999] = ("f" * 60, rows[1999][1])
        machine = (6, "", tuple(rows))
        self.assertEqual(least(machine), machine)
        rows[999] = rows[1999]
        self.assertEqual(least((6, "", tuple(rows))), (6, "", tuple(
            (rows[at][0], (("", (at + 1) % 1000),) * 6) for at in range(1000))))
        # A chain whose states are parted one by one from behind.
        rows = [("", (("", min(at + 1, 1999)), ("", at))) for at in range(1999)] + [("a", (("b", 1999),) * 2)]
        self.assertEqual(least((2, "", tuple(rows))), (2, "", tuple(rows)))
        source = random.Random(91)
        machine = some_machine(source, 6, 2000, 60)
        made = least(machine)
        self.assertEqual(least(made), made)


class ErrorsTest(unittest.TestCase):
    def test_not_machine(self):
        for bad in (ring(2001), (7, "", ring(1, 7)[2]), (2, "c", still(2)[2]), (2, "", ()),
                    (2, "", (("", (("", 1), ("", 0))),))):
            for call in ONE_EACH:
                with self.assertRaises(NotMachine):
                    call(bad)
            for one, other in ((bad, bad), (bad, still(3)), (still(3), bad)):
                with self.assertRaises(NotMachine):
                    same_forms(one, other)

    def test_same_forms(self):
        long = (2, "a" * 40, (("b" * 21, (("b" * 21, 0), ("b" * 21, 0))),))
        long3 = (3, "a" * 40, (("b" * 21, (("b" * 21, 0),) * 3),))
        self.assertIs(same_forms(still(2), MACHINE), False)
        for one, other in ((still(2), still(3)), (long, still(3)), (still(2), long3), (long, long3)):
            with self.assertRaises(BadNumber):
                same_forms(one, other)
        for one, other in ((long, still(2)), (still(2), long), (long, long), (MACHINE, long)):
            with self.assertRaises(TooLarge):
                same_forms(one, other)

    def test_no_list_is_shared(self):
        for call in (beginnings, reached):
            expected = call(MACHINE)
            call(MACHINE).append("x")
            self.assertEqual(call(MACHINE), expected)


if __name__ == "__main__":
    unittest.main()
