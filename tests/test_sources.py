"""The words with a given form: [120] to [126], and sources.py of the interface."""

import random
import unittest

from soundturns.errors import BadNumber, NotMachine, NotWord, TooLarge
from soundturns.languages import is_wide_language
from soundturns.lists import form_of
from soundturns.machines import still
from soundturns.making import behind, list_machine, rule_machine
from soundturns.sources import (all_sources, first_source, first_sources, has_source, is_endless, source_counts,
                                source_language)
from tests.samples import (LETTERS, MACHINE, first_in_order, read_slowly, ring, slow_form, slow_takes,
                           some_machine, some_rule, words_up_to)

WITHOUT_A = rule_machine(2, ("a", "", (), ()))
# All that is written is the empty word, so it has all words as its sources.
SILENT = (2, "", (("", (("", 0), ("", 0))),))
PLAIN = (source_language, has_source, first_source, is_endless, all_sources)


def slow_language(machine, word):
    """Return the language of the sources, found word by word: each state stands for its first word."""
    k, _, rows = machine

    def place_of(read):
        told, state = read_slowly(machine, read)
        return (state, len(told)) if word.startswith(told) else None

    firsts = {place_of(""): ""}
    at = 0
    while at < len(firsts):
        read = list(firsts.values())[at]
        for letter in LETTERS[:k]:
            firsts.setdefault(place_of(read + letter), read + letter)
        at += 1
    numbers = {place: number for number, place in enumerate(firsts)}
    # From the dead state no letter leads back, though the word read for it need not fit for ever.
    made = []
    for place, read in firsts.items():
        if place is None:
            made.append((False, (numbers[None],) * k))
        else:
            made.append((word[place[1]:] == rows[place[0]][0],
                         tuple(numbers[place_of(read + letter)] for letter in LETTERS[:k])))
    return k, tuple(made)


def passing(states, *, first="", dead=True):
    """Return a machine with a ring of states in which `a` writes nothing.

    In the state 0 the word ends with nothing written, in the others with `b`; `b` writes `b` if `dead` is True.
    """
    rows = [("b" if at else "", (("", (at + 1) % states), ("b" if dead else "", (at + 1) % states)))
            for at in range(states)]
    return 2, first, tuple(rows)


def branching(choices, *, also=False):
    """Return a machine of five letters with as many sources of `a` as the product of the choices, perhaps one more."""
    rows = []
    for at, many in enumerate(choices):
        entries = [("" if number < many else "b", at + 1) for number in range(5)]
        rows.append(("a" if also and at == 0 else "b", tuple(entries)))
    rows.append(("a", (("b", len(choices)),) * 5))
    return 5, "", tuple(rows)


class LanguageTest(unittest.TestCase):
    def test_example(self):
        self.assertEqual(source_language(MACHINE, "ba"), (2, (
            (False, (1, 2)), (False, (3, 4)), (False, (3, 5)), (True, (4, 6)), (False, (4, 4)), (False, (4, 4)),
            (False, (4, 4)))))

    def test_with_the_dead_state_and_without(self):
        self.assertEqual(source_language(SILENT, ""), (2, ((True, (0, 0)),)))
        self.assertEqual(source_language(SILENT, "a"), (2, ((False, (0, 0)),)))
        self.assertEqual(source_language(still(2), ""), (2, ((True, (1, 1)), (False, (1, 1)))))
        self.assertEqual(source_language(WITHOUT_A, "b"),
                         (2, ((False, (0, 1)), (True, (1, 2)), (False, (2, 2)))))
        # What is written at the beginning does not fit, so nothing does.
        self.assertEqual(source_language((2, "b", SILENT[2]), "a"), (2, ((False, (0, 0)),)))
        self.assertEqual(source_language((3, "ab", still(3)[2]), "a"), (3, ((False, (0, 0, 0)),)))
        self.assertEqual(source_language((2, "ab", SILENT[2]), "ab"), (2, ((True, (0, 0)),)))

    def test_a_place_is_a_state_and_a_number(self):
        # Both states have the same words behind them, but they are not one.
        machine = (2, "", (("", (("", 1), ("", 0))), ("", (("", 0), ("", 1)))))
        self.assertEqual(source_language(machine, ""), (2, ((True, (1, 0)), (True, (0, 1)))))

    def test_all_short_words(self):
        source = random.Random(121)
        for _ in range(150):
            k = source.choice((2, 2, 3))
            machine = some_machine(source, k, source.randint(1, 4), source.randint(0, 2))
            for word in words_up_to(k, 3):
                language = source_language(machine, word)
                self.assertTrue(is_wide_language(language))
                self.assertEqual(language, slow_language(machine, word))
                for read in words_up_to(k, 4):
                    self.assertIs(slow_takes(language, read), slow_form(machine, read) == word)

    def test_a_word_of_sixty_letters(self):
        language = source_language(still(2), "ab" * 30)
        self.assertEqual(len(language[1]), 62)
        self.assertIs(slow_takes(language, "ab" * 30), True)
        self.assertEqual(all_sources(still(2), "ab" * 30), ["ab" * 30])


class SourcesTest(unittest.TestCase):
    def test_examples(self):
        self.assertEqual(all_sources(MACHINE, "ba"), ["aa", "ba"])
        self.assertEqual(all_sources(MACHINE, "ab"), ["ab"])
        self.assertEqual(all_sources(MACHINE, "aa"), [])
        self.assertIs(has_source(MACHINE, "ba"), True)
        self.assertIs(has_source(MACHINE, "aa"), False)
        self.assertEqual(first_source(MACHINE, "ba"), "aa")
        self.assertIsNone(first_source(MACHINE, "aa"))
        self.assertEqual(first_source(MACHINE, ""), "")
        self.assertIs(is_endless(MACHINE, "ba"), False)
        self.assertIs(is_endless(WITHOUT_A, "b"), True)
        self.assertIs(is_endless(WITHOUT_A, "ab"), False)
        self.assertIsNone(all_sources(WITHOUT_A, "b"))
        self.assertEqual(all_sources(WITHOUT_A, "ab"), [])
        self.assertEqual(first_sources(WITHOUT_A, "b", 7), ["b", "ab", "ba", "aab", "aba", "baa", "aaab"])
        self.assertEqual(source_counts(WITHOUT_A, "b", 4), [0, 1, 2, 3, 4])

    def test_all_short_words(self):
        source = random.Random(122)
        seen = {True: 0, False: 0}
        for _ in range(200):
            machine = some_machine(source, 2, source.randint(1, 3), source.randint(0, 2))
            forms = {}
            for read in words_up_to(2, 10):
                forms.setdefault(slow_form(machine, read), []).append(read)
            for word in words_up_to(2, 3):
                found = forms.get(word, [])
                states = len(source_language(machine, word)[1])
                # [123]: a first source has fewer letters than the language has states, at most 13 here.
                if states <= 11:
                    self.assertEqual(first_source(machine, word), first_in_order(found))
                    self.assertIs(has_source(machine, word), found != [])
                self.assertEqual(source_counts(machine, word, 10),
                                 [len([read for read in found if len(read) == many]) for many in range(11)])
                endless = is_endless(machine, word)
                seen[endless] += 1
                if endless:
                    self.assertIsNone(all_sources(machine, word))
                    self.assertTrue(all(read in found for read in first_sources(machine, word, 5) if len(read) <= 10))
                    self.assertEqual(len(first_sources(machine, word, 100)), 100)
                elif states <= 11:
                    self.assertEqual(all_sources(machine, word), found)
                for most in (0, 1, 2, 5):
                    told = first_sources(machine, word, most)
                    self.assertEqual(told[:len(found)], found[:most])
        self.assertGreater(seen[True], 100)
        self.assertGreater(seen[False], 100)

    def test_loops_that_do_not_count(self):
        # No word reaches the state 1, and from the state 2 no word leads to one that ends well.
        machine = (2, "", (("", (("a", 0), ("", 2))), ("", (("", 1), ("", 0))), ("b", (("", 2), ("", 2)))))
        self.assertIs(is_endless(machine, ""), False)
        self.assertEqual(all_sources(machine, ""), [""])
        self.assertIs(is_endless(machine, "a"), False)
        self.assertIs(is_endless(machine, "b"), True)
        self.assertIsNone(all_sources(machine, "b"))
        self.assertEqual(first_sources(machine, "b", 3), ["b", "ba", "bb"])

    def test_behind_one_another(self):
        source = random.Random(125)
        for _ in range(60):
            one, other = some_machine(source, 2, 3, 2), some_machine(source, 2, 2, 2)
            both = behind(one, other)
            for word in words_up_to(2, 3):
                between = first_sources(other, word, 100)
                if len(between) < 100:
                    expected = {read for form in between if len(form) <= 60 for read in words_up_to(2, 6)
                                if slow_form(one, read) == form}
                    self.assertEqual([read for read in words_up_to(2, 6) if read in expected],
                                     [read for read in words_up_to(2, 6)
                                      if slow_takes(source_language(both, word), read)])

    def test_lists_of_rules(self):
        source = random.Random(120)
        for _ in range(30):
            rules = tuple(some_rule(source, 2) for _ in range(3))
            machine = list_machine(2, rules)
            for word in words_up_to(2, 4):
                found = [read for read in words_up_to(2, 6) if form_of(2, rules, read) == word]
                self.assertEqual(source_counts(machine, word, 6),
                                 [len([read for read in found if len(read) == many]) for many in range(7)])

    def test_no_list_is_shared(self):
        for call in (lambda: all_sources(MACHINE, "ba"), lambda: first_sources(MACHINE, "ba", 5),
                     lambda: source_counts(MACHINE, "ba", 5)):
            expected = call()
            call().append("x")
            self.assertEqual(call(), expected)


class BoundTest(unittest.TestCase):
    def test_numbers_of_sources(self):
        self.assertEqual(len(all_sources(branching((5, 5, 5, 2, 2)), "a")), 500)
        found = all_sources(branching((5, 5, 5, 2, 2)), "a")
        self.assertEqual((found[0], found[1], found[-1]), ("aaaaa", "aaaab", "eeebb"))
        self.assertEqual(len(all_sources(branching((5, 5, 4, 2, 2), also=True), "a")), 401)
        for machine, many in ((branching((5, 5, 5, 2, 2), also=True), 501), (branching((3, 4, 5, 5, 2)), 600),
                              (branching((5,) * 40), 5 ** 40)):
            self.assertEqual(sum(source_counts(machine, "a", 60)), many)
            with self.assertRaises(TooLarge):
                all_sources(machine, "a")
        self.assertEqual(first_sources(branching((5,) * 40), "a", 2), ["a" * 40, "a" * 39 + "b"])
        self.assertIsNone(all_sources(SILENT, ""))

    def test_a_long_source_among_all(self):
        rows = [("b", (("", min(at + 1, 1998)), ("b", at))) for at in range(1998)] + [("a", (("b", 0), ("b", 0)))]
        machine = (2, "", tuple(rows))
        self.assertEqual(len(source_language(machine, "a")[1]), 2000)
        self.assertEqual(all_sources(machine, "a"), ["a" * 1998])
        self.assertEqual(first_sources(machine, "a", 100), ["a" * 1998])
        self.assertEqual(first_source(machine, "a"), "a" * 1998)

    def test_how_many_first_ones(self):
        self.assertEqual(first_sources(WITHOUT_A, "b", 0), [])
        found = first_sources(WITHOUT_A, "b", 100)
        self.assertEqual(len(found), 100)
        self.assertEqual(found, [word for word in words_up_to(2, 14) if word.count("b") == 1][:100])
        self.assertEqual(first_sources(MACHINE, "ba", 100), ["aa", "ba"])
        self.assertEqual(first_sources(MACHINE, "ba", 2), ["aa", "ba"])
        self.assertEqual(first_sources(MACHINE, "ba", 1), ["aa"])
        self.assertEqual(first_sources(MACHINE, "aa", 100), [])
        for most in (-1, 101, -10 ** 40, 10 ** 40):
            with self.assertRaises(BadNumber):
                first_sources(WITHOUT_A, "b", most)

    def test_long_sources_among_the_first_ones(self):
        for states, many in ((1000, 3), (667, 3), (20, 100)):
            self.assertEqual(first_sources(passing(states), "", many), ["a" * (at * states) for at in range(many)])
        # The last ones would have 3000, 2001 and 2016 letters.
        for states, many in ((1000, 4), (667, 4), (21, 97)):
            with self.assertRaises(TooLarge):
                first_sources(passing(states), "", many)
        self.assertEqual(first_sources(passing(1999), "", 0), [])

    def test_how_many_letters_are_counted(self):
        self.assertEqual(source_counts(WITHOUT_A, "b", 0), [0])
        self.assertEqual(source_counts(WITHOUT_A, "", 0), [1])
        self.assertEqual(source_counts(WITHOUT_A, "b", 60), list(range(61)))
        silent = (6, "", (("", (("", 0),) * 6),))
        self.assertEqual(source_counts(silent, "", 60), [6 ** many for many in range(61)])
        for length in (-1, 61, -10 ** 40, 10 ** 40):
            with self.assertRaises(BadNumber):
                source_counts(WITHOUT_A, "b", length)

    def calls(self):
        """Return the functions of the interface, as functions of a machine and a word."""
        return [*PLAIN, lambda machine, word: first_sources(machine, word, 2),
                lambda machine, word: first_sources(machine, word, 0),
                lambda machine, word: source_counts(machine, word, 3)]

    def test_numbers_of_states(self):
        self.assertEqual(len(source_language(ring(2000), "")[1]), 2000)
        self.assertEqual(len(source_language(passing(1999), "")[1]), 2000)
        self.assertEqual(source_counts(ring(2000, 6), "", 2), [1, 6, 36])
        self.assertEqual(first_sources(ring(2000), "", 3), ["", "a", "b"])
        two = (2, "", tuple(("", (("", (at + 1) % 1000), ("a", at))) for at in range(1000)))
        for call in self.calls():
            call(ring(2000), "")
            call(passing(1999), "")
            # One state more, the dead one.
            with self.assertRaises(TooLarge):
                call(passing(2000), "")
            with self.assertRaises(TooLarge):
                call(two, "a")
            call(two, "")

    def test_errors_in_order(self):
        bad = ring(2001)
        for word in ("", "c", "a" * 61):
            for call in self.calls():
                with self.assertRaises(NotMachine):
                    call(bad, word)
            with self.assertRaises(NotMachine):
                first_sources(bad, word, -1)
            with self.assertRaises(NotMachine):
                source_counts(bad, word, 61)
        for word in ("c", "#", "a" * 61, "-"):
            for call in self.calls():
                with self.assertRaises(NotWord):
                    call(passing(2000), word)
            for number in (-1, 101):
                with self.assertRaises(NotWord):
                    first_sources(passing(2000), word, number)
                with self.assertRaises(NotWord):
                    source_counts(passing(2000), word, number)
        for number in (-1, 101):
            with self.assertRaises(BadNumber):
                first_sources(passing(2000), "", number)
            with self.assertRaises(BadNumber):
                source_counts(passing(2000), "", number)

    def test_wide_machines(self):
        source = random.Random(123)
        for length in (1, 2, 60):
            machine = some_machine(source, 6, 2000, length)
            form = slow_form(machine, "abc")
            for word in (form[:60], "f" * 60, ""):
                try:
                    found = first_sources(machine, word, 100)
                    self.assertTrue(all(slow_form(machine, read) == word for read in found))
                except TooLarge:
                    pass


if __name__ == "__main__":
    unittest.main()
