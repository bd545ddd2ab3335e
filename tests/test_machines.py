"""Machines: [60], [61] and [67], and machines.py of the interface."""

import unittest

from soundturns import machines
from soundturns.errors import BadNumber, NotMachine, NotWord
from soundturns.rules import changed
from tests.samples import BAD_NUMBERS, LETTERS, MACHINE, ring, words_up_to

EXAMPLE = MACHINE
USES = (machines.form, machines.written, machines.state_behind)


def with_first(first):
    """Return the example with another word at the beginning."""
    return EXAMPLE[0], first, EXAMPLE[2]


def with_row(row):
    """Return the example with another last row."""
    return EXAMPLE[0], EXAMPLE[1], EXAMPLE[2][:2] + (row,)


class FormTest(unittest.TestCase):
    def check(self, machine, machine_too, wide_too):
        """Check all that tells whether a tuple is a machine, a wide machine."""
        self.assertIs(machines.is_machine(machine), machine_too)
        self.assertIs(machines.is_wide(machine), wide_too)
        for call, expected in ((machines.check_machine, machine_too), (machines.check_wide, wide_too)):
            if expected:
                self.assertIsNone(call(machine))
            else:
                with self.assertRaises(NotMachine):
                    call(machine)
        for use in USES:
            if wide_too:
                use(machine, "")
            else:
                with self.assertRaises(NotMachine):
                    use(machine, "x")

    def check_both(self, machine, expected):
        self.check(machine, expected, expected)

    def test_example(self):
        self.check_both(EXAMPLE, True)

    def test_numbers_of_states(self):
        for states, machine_too, wide_too in ((1, True, True), (2, True, True), (199, True, True),
                                              (200, True, True), (201, False, True),
                                              (2000, False, True), (2001, False, False)):
            with self.subTest(states=states):
                self.check(ring(states), machine_too, wide_too)
        self.check_both((2, "", ()), False)
        self.check(ring(200, 6, "f"), True, True)
        self.check(ring(2000, 6, "f"), False, True)

    def test_numbers_of_letters(self):
        for k in range(2, 7):
            self.check_both(ring(3, k, LETTERS[:k]), True)
        for k in (1, 7):
            self.check_both(ring(3, k), False)
            self.check_both(ring(3, k, "a"), False)
        for k in BAD_NUMBERS + (3, 4):
            self.check_both((k, "", EXAMPLE[2]), False)
        self.check_both((0, "", (("", ()),)), False)

    def test_words(self):
        for word, expected in (("", True), ("a", True), ("ab" * 30, True), ("ab" * 30 + "a", False),
                               ("c", False), ("a#", False), ("-", False), ("a" * 1000, False)):
            with self.subTest(word=word):
                self.check_both(with_first(word), expected)
                self.check_both(with_row((word, (("", 0), ("", 1)))), expected)
                self.check_both(with_row(("", ((word, 0), ("", 1)))), expected)
                self.check_both(with_row(("", (("", 0), (word, 1)))), expected)
        self.check_both(ring(2, 3, "c" * 60), True)
        self.check_both(ring(2, 3, "c" * 61), False)

    def test_numbers_of_entries(self):
        for many, expected in ((0, False), (1, False), (2, True), (3, False), (6, False)):
            self.check_both(with_row(("", (("", 0),) * many)), expected)
        for k in range(2, 7):
            for many in range(1, 8):
                self.check_both((k, "", (("", (("", 0),) * many),)), many == k)

    def test_next_states(self):
        for state, expected in ((0, True), (1, True), (2, True), (3, False), (4, False), (-1, False),
                                (-3, False), (10 ** 30, False), (-10 ** 30, False)):
            self.check_both(with_row(("", (("", state), ("", 0)))), expected)
            self.check_both(with_row(("", (("", 0), ("", state)))), expected)

    def test_one_wrong_row_anywhere(self):
        good = ring(2000)
        for at in (0, 1, 999, 1999):
            for row in (("c", good[2][at][1]), ("", (("", 0), ("", 2000))), ("", (("", 0), ("", -1)))):
                rows = good[2][:at] + (row,) + good[2][at + 1:]
                self.check((2, "", rows), False, False)


class UseTest(unittest.TestCase):
    def test_example(self):
        self.assertEqual(machines.form(EXAMPLE, "aaba"), "baba")
        self.assertEqual(machines.written(EXAMPLE, "aaba"), "bab")
        self.assertEqual(machines.state_behind(EXAMPLE, "aaba"), 1)

    def test_the_example_makes_the_forms_of_its_rule(self):
        rule = ("a", "b", (), ("a",))
        for word in words_up_to(2, 7):
            self.assertEqual(machines.form(EXAMPLE, word), changed(2, rule, word))

    def test_what_is_written(self):
        machine = (3, "ab", (("c", (("", 1), ("bb", 0), ("c", 2))), ("", (("a", 2), ("", 1), ("ca", 0))),
                             ("aa", (("b", 2), ("c", 0), ("", 1)))))
        for word, told, state, last in (("", "ab", 0, "c"), ("a", "ab", 1, ""), ("b", "abbb", 0, "c"),
                                        ("c", "abc", 2, "aa"), ("ac", "abca", 0, "c"),
                                        ("aab", "abac", 0, "c"), ("cacb", "abcb", 1, "")):
            with self.subTest(word=word):
                self.assertEqual(machines.written(machine, word), told)
                self.assertEqual(machines.state_behind(machine, word), state)
                self.assertEqual(machines.form(machine, word), told + last)

    def test_what_is_written_only_grows(self):
        for word in words_up_to(2, 6):
            told = machines.written(EXAMPLE, word)
            for letter in "ab":
                self.assertTrue(machines.written(EXAMPLE, word + letter).startswith(told))

    def test_words_of_sixty_letters(self):
        machine = ring(7, 2, "ab" * 30)
        self.assertEqual(machines.form(machine, "b" * 60), "ab" * 30 * 62)
        self.assertEqual(machines.written(machine, "b" * 60), "ab" * 30 * 61)
        self.assertEqual(machines.state_behind(machine, "b" * 60), 4)

    def test_wide_machines(self):
        machine = ring(2000)
        self.assertEqual(machines.state_behind(machine, "ab" * 30), 60)
        self.assertEqual(machines.form(machine, "ab"), "")

    def test_not_machine_goes_ahead_of_not_word(self):
        for use in USES:
            for word in ("x", "c", "a" * 61, "#"):
                with self.assertRaises(NotMachine):
                    use(ring(2001), word)
                with self.assertRaises(NotMachine):
                    use((7, "", (("", (("", 0),) * 7),)), word)
                with self.assertRaises(NotWord):
                    use(EXAMPLE, word)
            use(ring(2, 3), "c")


class StillTest(unittest.TestCase):
    def test_each_number_of_letters(self):
        self.assertEqual(machines.still(2), (2, "", (("", (("a", 0), ("b", 0))),)))
        for k in range(2, 7):
            machine = machines.still(k)
            self.assertEqual(machine, (k, "", (("", tuple((letter, 0) for letter in LETTERS[:k])),)))
            self.assertIs(machines.is_machine(machine), True)
            for word in words_up_to(k, 3) + [LETTERS[k - 1] * 60]:
                self.assertEqual(machines.form(machine, word), word)
                self.assertEqual(machines.state_behind(machine, word), 0)

    def test_bad_numbers(self):
        for k in BAD_NUMBERS:
            with self.assertRaises(BadNumber):
                machines.still(k)


if __name__ == "__main__":
    unittest.main()
