"""Languages of sources and of forms: [160] to [166], and images.py of the interface."""

import random
import unittest

from soundturns.errors import BadNumber, NotLanguage, NotMachine, NotWord, TooLarge
from soundturns.images import all_forms, astray, forms, is_form, leads_into, missing, sources
from soundturns.languages import (all_words, both, either, first_word, is_within, least_language, listed, no_word,
                                  of_words, others)
from soundturns.least import least
from soundturns.machines import still
from soundturns.making import behind, list_machine, rule_machine
from soundturns.sources import has_source, source_language
from soundturns.ways import explored
from soundturns.writing import Writing
from tests.samples import (LANGUAGE, LETTERS, MACHINE, first_in_order, ring, slow_form, slow_takes, some_language,
                           some_machine, some_rule, words_up_to)
from tests.test_languages import round_about, slow_least, taken

SILENT = (2, "", (("", (("", 0), ("", 0))),))


def copying_ring(states, k=2, *, first=""):
    """Return a machine whose states follow one another for ever; it writes each letter."""
    rows = [("", tuple((letter, (at + 1) % states) for letter in LETTERS[:k])) for at in range(states)]
    return k, first, tuple(rows)


def writing_a(states, k=2):
    """Return a machine whose states follow one another for ever; it writes `a` for each letter."""
    return k, "", tuple(("", (("a", (at + 1) % states),) * k) for at in range(states))


def some_pairs(seed, many, length=2):
    """Return pairs of a machine and a language with as many letters."""
    source = random.Random(seed)
    found = []
    for _ in range(many):
        k = source.choice((2, 2, 3))
        found.append((some_machine(source, k, source.randint(1, 4), source.randint(0, length)),
                      some_language(source, k, source.randint(1, 4))))
    return found


def closed_set(machine, language, useful, places):
    """Return the set of some places of [162] and of all those to which the writing goes on without a letter."""
    found = set()
    todo = list(places)
    while todo:
        place = todo.pop()
        if place in found:
            continue
        found.add(place)
        state, within, rest = place
        if rest == "" and state != -1:
            last, entries = machine[2][state]
            accepting, nexts = language[1][within]
            todo.extend((after, after2, out) for (out, after), after2 in zip(entries, nexts) if after2 in useful)
            if accepting:
                todo.append((-1, within, last))
    return frozenset(found)


def slow_sets(machine, language):
    """Return how many sets of [162] there are, the empty one among them, if it is met."""
    useful = {state for state, row in enumerate(language[1]) if row[0]}
    for _ in language[1]:
        useful |= {state for state, row in enumerate(language[1]) if useful & set(row[1])}
    start = closed_set(machine, language, useful, [(0, 0, machine[1])] if 0 in useful else [])
    found = [start]
    for places in found:
        for letter in LETTERS[:machine[0]]:
            places_behind = [(state, within, rest[1:]) for state, within, rest in places if rest.startswith(letter)]
            behind_it = closed_set(machine, language, useful, places_behind)
            if behind_it not in found:
                found.append(behind_it)
    return len(found)


def has_source_in(machine, language, word):
    """Return whether a language takes a source of a word."""
    return first_word(both(source_language(machine, word), language)) is not None


class SourcesTest(unittest.TestCase):
    def test_ordinary(self):
        self.assertEqual(sources(MACHINE, of_words(2, ["ba", "aa"])), of_words(2, ["aa", "ba"]))
        self.assertEqual(sources(still(2), LANGUAGE), LANGUAGE)
        self.assertEqual(sources(SILENT, of_words(2, [""])), all_words(2))
        self.assertEqual(sources(SILENT, of_words(2, ["a"])), no_word(2))
        self.assertEqual(sources(MACHINE, all_words(2)), all_words(2))
        self.assertEqual(sources((2, "ab", still(2)[2]), of_words(2, ["abba", "ab", "ba"])), of_words(2, ["ba", ""]))

    def test_all_short_words(self):
        for machine, language in some_pairs(160, 200, 3):
            made = sources(machine, language)
            self.assertEqual(made, slow_least(made))
            for word in words_up_to(machine[0], 5):
                self.assertIs(slow_takes(made, word), slow_takes(language, slow_form(machine, word)))

    def test_the_sources_of_one_word(self):
        for machine, _ in some_pairs(161, 50):
            for word in words_up_to(machine[0], 3):
                self.assertEqual(sources(machine, of_words(machine[0], [word])),
                                 least_language(source_language(machine, word)))

    def test_numbers_of_pairs(self):
        for one, other, fits in ((16, 125, True), (2000, 1, True), (1, 2000, True), (2000, 2000, True),
                                 (23, 87, False), (2000, 3, False)):
            if fits:
                sources(writing_a(one), round_about(other))
            else:
                with self.assertRaises(TooLarge):
                    sources(writing_a(one), round_about(other))
                # The pairs count, also where the least language has one state.
                with self.assertRaises(TooLarge):
                    sources(writing_a(one), round_about(other, goals=()))
        self.assertEqual(len(sources(writing_a(16), round_about(125))[1]), 125)


class FormsTest(unittest.TestCase):
    def check(self, machine, language, made, longest):
        """Check a language of forms by the sources of all words of at most so many letters."""
        self.assertEqual(made, slow_least(made))
        self.assertEqual(made[0], machine[0])
        for word in words_up_to(machine[0], longest):
            self.assertIs(slow_takes(made, word), has_source_in(machine, language, word), word)
        for word in taken(language, 5):
            self.assertIs(slow_takes(made, slow_form(machine, word)), True)

    def test_ordinary(self):
        self.assertEqual(forms(MACHINE, of_words(2, ["aa", "ba", "aab"])), of_words(2, ["ba", "bab"]))
        self.assertEqual(forms(still(2), LANGUAGE), LANGUAGE)
        self.assertEqual(forms(SILENT, LANGUAGE), of_words(2, [""]))
        self.assertEqual(forms(SILENT, no_word(2)), no_word(2))
        self.assertEqual(forms(MACHINE, no_word(2)), no_word(2))
        self.assertEqual(all_forms(SILENT), of_words(2, [""]))
        self.assertEqual(all_forms(still(3)), all_words(3))
        self.assertEqual(all_forms((2, "ab", (("b", (("", 0), ("", 0))),))), of_words(2, ["abb"]))

    def test_example(self):
        # Before an `a` no `a` stays.
        self.assertEqual(taken(all_forms(MACHINE), 6), [word for word in words_up_to(2, 6) if "aa" not in word])
        self.assertEqual(missing(MACHINE), "aa")

    def test_several_letters_for_one(self):
        machine = (2, "", (("", (("ab", 0), ("aba", 0))),))
        self.assertEqual(listed(all_forms(machine), 5), ["", "ab", "aba", "abab", "abaab", "ababa"])
        self.check(machine, all_words(2), all_forms(machine), 7)
        made = all_forms((2, "", (("b" * 60, (("a" * 30, 0), ("a" * 29, 0))),)))
        self.assertEqual(first_word(made), "b" * 60)
        for many in range(120):
            self.assertIs(slow_takes(made, "a" * many + "b" * 60),
                          any(29 * letters <= many <= 30 * letters for letters in range(5)))

    def test_what_is_written_at_both_ends(self):
        machine = (2, "ba", (("b", (("", 1), ("a", 0))), ("aab", (("b", 1), ("", 0)))))
        self.check(machine, all_words(2), all_forms(machine), 7)
        self.assertEqual(first_word(all_forms(machine)), "bab")
        self.assertEqual(missing(machine), "")

    def test_nothing_is_written_for_ever(self):
        machine = (2, "", (("", (("", 1), ("", 0))), ("a", (("", 0), ("b", 1)))))
        self.check(machine, all_words(2), all_forms(machine), 6)

    def test_all_short_words(self):
        for machine, language in some_pairs(162, 250):
            self.check(machine, language, forms(machine, language), 4)
            self.assertEqual(all_forms(machine), forms(machine, all_words(machine[0])))

    def test_longer_words_that_are_written(self):
        for machine, language in some_pairs(163, 60, 5):
            try:
                made = forms(machine, language)
            except TooLarge:
                continue
            self.check(machine, language, made, 5)

    def test_languages_of_more_states(self):
        source = random.Random(175)
        for _ in range(120):
            k = source.choice((2, 3))
            machine = some_machine(source, k, source.randint(1, 4), source.randint(1, 2))
            language = some_language(source, k, source.randint(6, 15))
            try:
                made = forms(machine, language)
            except TooLarge:
                continue
            self.check(machine, language, made, 4)

    def test_machines_of_rules(self):
        source = random.Random(164)
        for _ in range(40):
            machine = list_machine(2, tuple(some_rule(source, 2) for _ in range(2)))
            made = all_forms(machine)
            found = {slow_form(machine, word) for word in words_up_to(2, 8)}
            self.assertIs(all(slow_takes(made, word) for word in found), True)
            self.check(machine, all_words(2), made, 4)

    def test_numbers_of_sets(self):
        self.assertEqual(forms(copying_ring(2000), all_words(2)), all_words(2))
        self.assertEqual(forms(copying_ring(16), round_about(125)), round_about(125))
        for machine in (copying_ring(2000, first="ab"), copying_ring(1999, first="ab")):
            with self.assertRaises(TooLarge):
                all_forms(machine)
        # 1999 sets and the empty one, where `b` has been written; then one more.
        self.assertEqual(all_forms(writing_a(1999)), (2, ((True, (0, 1)), (False, (1, 1)))))
        with self.assertRaises(TooLarge):
            all_forms(writing_a(2000))
        with self.assertRaises(TooLarge):
            forms(copying_ring(23), round_about(87))
        with self.assertRaises(TooLarge):
            missing(writing_a(2000))

    def test_the_sets_are_those_of_the_document(self):
        for machine, language in some_pairs(176, 300, 4):
            many = slow_sets(machine, language)
            writing = Writing(machine, language)
            places, _ = explored(writing.beginning(), writing.behind, many)
            self.assertEqual(len(places), many)

    def test_many_sets(self):
        # The last ten letters are told, and whether a `c` was among the letters, which is never written.
        self.assertEqual(len(forms(guessing(9), ending_language(9))[1]), 2 ** 10 + 1)
        with self.assertRaises(TooLarge):
            forms(guessing(10), ending_language(10))


def guessing(many):
    """Return a machine of three letters that writes `a` for the first `c`, and then counts letters."""
    rows = [("", (("a", 0), ("b", 0), ("a", 1)))]
    for at in range(1, many + 2):
        after = min(at + 1, many + 1)
        rows.append(("", (("a", after), ("b", after), ("c", after))))
    return 3, "", tuple(rows)


def ending_language(many):
    """Return the language of the words with one `c`, and so many other letters behind it."""
    rows = [(False, (0, 0, 1))]
    dead = many + 2
    for at in range(1, many + 2):
        after = at + 1 if at <= many else dead
        rows.append((at == many + 1, (after, after, dead)))
    return 3, tuple(rows) + ((False, (dead,) * 3),)


class IsFormTest(unittest.TestCase):
    def test_ordinary(self):
        for word in words_up_to(2, 6):
            self.assertIs(is_form(MACHINE, word), "aa" not in word)
            self.assertIs(is_form(SILENT, word), word == "")
            self.assertIs(is_form(still(2), word), True)

    def test_all_short_words(self):
        for machine, _ in some_pairs(165, 100, 3):
            for word in words_up_to(machine[0], 4):
                self.assertIs(is_form(machine, word), has_source(machine, word))

    def test_never_too_large(self):
        two = (2, "", tuple(("", (("", (at + 1) % 2000), ("a", at))) for at in range(2000)))
        self.assertIs(is_form(two, "a" * 60), True)
        self.assertIs(is_form(two, "a" * 59 + "b"), False)
        self.assertIs(is_form(ring(2000, 6), ""), True)
        self.assertIs(is_form(writing_a(2000, 6), "a" * 60), True)
        self.assertIs(is_form((2, "a" * 60, two[2]), "a" * 59), False)
        self.assertIs(is_form((2, "a" * 60, two[2]), "a" * 60), True)
        random_machine = some_machine(random.Random(166), 6, 2000, 1)
        self.assertIs(is_form(random_machine, slow_form(random_machine, "abcdef" * 5)[:60]) in (True, False), True)

    def test_errors_in_order(self):
        for word in ("", "c", "a" * 61):
            with self.assertRaises(NotMachine):
                is_form(ring(2001), word)
        for word in ("c", "#", "a" * 61):
            with self.assertRaises(NotWord):
                is_form(ring(2000), word)


class MissingTest(unittest.TestCase):
    def test_ordinary(self):
        self.assertIsNone(missing(still(2)))
        self.assertIsNone(missing(copying_ring(2000, 6)))
        self.assertEqual(missing(SILENT), "a")
        self.assertEqual(missing((2, "a", still(2)[2])), "")
        self.assertEqual(missing(rule_machine(3, ("c", "", (), ()))), "c")
        self.assertEqual(missing((2, "", (("", (("aa", 0), ("b", 0))),))), "a")

    def test_all_short_words(self):
        onto = 0
        for machine, _ in some_pairs(167, 300):
            word = missing(machine)
            expected = first_in_order([word for word in words_up_to(machine[0], 4) if not has_source(machine, word)])
            onto += word is None
            if expected is None and word is not None:
                self.assertGreater(len(word), 4)
                self.assertIs(is_form(machine, word), False)
            else:
                self.assertEqual(word, expected)
        self.assertGreater(onto, 2)

    def test_a_long_missing_word(self):
        rows = [("", (("a", min(at + 1, 30)), ("b", 0))) for at in range(30)] + [("b", (("b", 0), ("b", 0)))]
        machine = least((2, "", tuple(rows)))
        word = missing(machine)
        self.assertIs(is_form(machine, word), False)
        self.assertIs(all(is_form(machine, word[:at]) for at in range(len(word))), True)
        self.assertEqual(word, "a" * 30)


class AstrayTest(unittest.TestCase):
    def test_ordinary(self):
        self.assertEqual(astray(MACHINE, all_words(2), others(of_words(2, ["ba"]))), "aa")
        self.assertIsNone(astray(MACHINE, all_words(2), all_forms(MACHINE)))
        self.assertIs(leads_into(MACHINE, all_words(2), all_forms(MACHINE)), True)
        self.assertIs(leads_into(MACHINE, all_words(2), LANGUAGE), False)
        self.assertIsNone(astray(MACHINE, no_word(2), no_word(2)))
        self.assertEqual(astray(MACHINE, all_words(2), no_word(2)), "")
        self.assertEqual(astray(still(2), LANGUAGE, of_words(2, ["a"])), "ab")

    def test_all_short_words(self):
        source = random.Random(168)
        found = {True: 0, False: 0}
        for machine, one in some_pairs(169, 200):
            k = machine[0]
            other = some_language(source, k, 2)
            expected = first_in_order([word for word in taken(one, 6)
                                       if not slow_takes(other, slow_form(machine, word))])
            word = astray(machine, one, other)
            if expected is not None or word is None:
                self.assertEqual(word, expected)
            else:
                self.assertGreater(len(word), 6)
                self.assertIs(slow_takes(one, word) and not slow_takes(other, slow_form(machine, word)), True)
            self.assertIs(leads_into(machine, one, other), word is None)
            self.assertIs(is_within(one, sources(machine, other)), word is None)
            self.assertIs(is_within(forms(machine, one), other), word is None)
            self.assertIs(leads_into(machine, one, forms(machine, one)), True)
            found[word is None] += 1
        self.assertGreater(found[True], 10)
        self.assertGreater(found[False], 50)

    def test_too_large(self):
        for call in (astray, leads_into):
            with self.assertRaises(TooLarge):
                call(writing_a(23), no_word(2), round_about(87))
            # The language of sources has 125 states, so there are 2000 pairs with the first language; or 2125.
            call(writing_a(16), round_about(16), round_about(125))
            with self.assertRaises(TooLarge):
                call(writing_a(16), round_about(17), round_about(125))


class RulesTest(unittest.TestCase):
    """[165]: machines behind one another, and languages that are made of others."""

    def test_machines_behind(self):
        source = random.Random(170)
        for one, language in some_pairs(171, 80, 1):
            other = some_machine(source, one[0], 3, 1)
            machine = behind(one, other)
            self.assertEqual(forms(machine, language), forms(other, forms(one, language)))
            self.assertEqual(sources(machine, language), sources(one, sources(other, language)))

    def test_languages_that_are_made(self):
        source = random.Random(172)
        for machine, one in some_pairs(173, 100):
            other = some_language(source, machine[0], 3)
            self.assertEqual(sources(machine, others(one)), others(sources(machine, one)))
            self.assertEqual(sources(machine, both(one, other)), both(sources(machine, one), sources(machine, other)))
            self.assertEqual(sources(machine, either(one, other)),
                             either(sources(machine, one), sources(machine, other)))
            self.assertEqual(forms(machine, either(one, other)), either(forms(machine, one), forms(machine, other)))


class ErrorsTest(unittest.TestCase):
    def test_errors_in_order(self):
        bad_machine, bad = ring(2001), (2, ((1, (0, 0)),))
        for call in (sources, forms):
            for machine, language, error in ((bad_machine, bad, NotMachine), (bad_machine, all_words(3), NotMachine),
                                             (still(3), bad, NotLanguage), (still(2), bad, NotLanguage),
                                             (still(2), round_about(2001), NotLanguage),
                                             (still(2), all_words(3), BadNumber),
                                             (writing_a(2000, 3), round_about(1999), BadNumber)):
                with self.assertRaises(error):
                    call(machine, language)
        for call in (astray, leads_into):
            for machine, one, other, error in (
                    (bad_machine, bad, bad, NotMachine), (bad_machine, all_words(3), all_words(2), NotMachine),
                    (still(2), bad, all_words(3), NotLanguage), (still(2), all_words(3), bad, NotLanguage),
                    (still(3), all_words(2), bad, NotLanguage), (still(2), bad, bad, NotLanguage),
                    (still(2), all_words(3), all_words(3), BadNumber),
                    (still(2), all_words(2), all_words(3), BadNumber),
                    (still(2), all_words(3), all_words(2), BadNumber),
                    (still(3), all_words(2), all_words(2), BadNumber),
                    (writing_a(2000), round_about(2000, 3), round_about(1999), BadNumber)):
                with self.assertRaises(error):
                    call(machine, one, other)
        for machine in (bad_machine, (7, "", (("", (("", 0),) * 7),)), (1, "", (("", (("", 0),)),)), (2, "", ()),
                        (2, "c", SILENT[2])):
            for call in (all_forms, missing, lambda machine: is_form(machine, "#"),
                         lambda machine: forms(machine, bad), lambda machine: sources(machine, bad)):
                with self.assertRaises(NotMachine):
                    call(machine)

    def test_wide_machines(self):
        source = random.Random(174)
        language = round_about(2000, 6)
        self.assertEqual(sources(still(6), language), language)
        self.assertEqual(forms(still(6), language), language)
        machine = some_machine(source, 6, 2000, 1)
        for call in (all_forms, missing):
            try:
                call(machine)
            except TooLarge:
                pass
        rows = [("f" * 60, tuple((letter * 60, source.randrange(2000)) for letter in LETTERS)) for _ in range(2000)]
        with self.assertRaises(TooLarge):
            all_forms((6, "", tuple(rows)))


if __name__ == "__main__":
    unittest.main()
