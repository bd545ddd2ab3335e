"""Languages and what is made of them: [140] to [146], and languages.py of the interface."""

import random
import unittest

from soundturns import languages
from soundturns.errors import BadNumber, NotLanguage, NotWord, TooLarge
from tests.samples import (BAD_NUMBERS, LANGUAGE, LETTERS, first_in_order, slow_takes, some_language, some_word,
                           states_by_words, words_up_to)

PAIRED = (languages.both, languages.either, languages.stray, languages.parting, languages.is_within)
JOINED = PAIRED + (languages.followed,)
SINGLE = (languages.least_language, languages.others, languages.turned_language, languages.first_word,
          languages.is_finite)
WITH_LENGTH = (languages.counts, languages.listed)


def round_about(states, k=2, *, goals=(0,)):
    """Return a language whose states follow one another for ever; the goals are accepting."""
    return k, tuple((at in goals, ((at + 1) % states,) * k) for at in range(states))


def with_row(row):
    """Return the example with another last row."""
    return 2, LANGUAGE[1][:3] + (row,)


def slow_least(language):
    """Return the least language, by classes that are parted until nothing changes."""
    k, rows = language
    classes = [int(accepting) for accepting, _ in rows]
    many = 0
    while len(set(classes)) > many:
        many = len(set(classes))
        keys = [(classes[state], tuple(classes[after] for after in rows[state][1])) for state in range(len(rows))]
        numbers = {key: number for number, key in enumerate(dict.fromkeys(keys))}
        classes = [numbers[key] for key in keys]
    order = list(dict.fromkeys(classes[state] for state in states_by_words([row[1] for row in rows])))
    made = []
    for name in order:
        accepting, entries = rows[classes.index(name)]
        made.append((accepting, tuple(order.index(classes[after]) for after in entries)))
    return k, tuple(made)


def choosing(choices, *, empty=False):
    """Return a language of five letters with as many words as the product of the choices, perhaps one more."""
    dead = len(choices) + 1
    rows = [(False, tuple(at + 1 if number < many else dead for number in range(5)))
            for at, many in enumerate(choices)]
    rows[0] = (empty, rows[0][1])
    return 5, tuple(rows) + ((True, (dead,) * 5), (False, (dead,) * 5))


def taken(language, longest):
    """Return the words of at most so many letters that a language takes."""
    return [word for word in words_up_to(language[0], longest) if slow_takes(language, word)]


def some_languages(seed, many, most=5):
    """Return pairs of languages with as many letters."""
    source = random.Random(seed)
    found = []
    for _ in range(many):
        k = source.choice((2, 2, 3))
        found.append((some_language(source, k, source.randint(1, most)),
                      some_language(source, k, source.randint(1, most))))
    return found


class FormTest(unittest.TestCase):
    def check(self, language, is_one, is_wide):
        """Check all that tells whether a tuple is a language, a wide language."""
        self.assertIs(languages.is_language(language), is_one)
        self.assertIs(languages.is_wide_language(language), is_wide)
        if not is_wide:
            for call in SINGLE:
                with self.assertRaises(NotLanguage):
                    call(language)
            for call in WITH_LENGTH:
                for length in (0, -1, 201):
                    with self.assertRaises(NotLanguage):
                        call(language, length)
            for call in JOINED:
                for one, other in ((language, LANGUAGE), (LANGUAGE, language), (language, language)):
                    with self.assertRaises(NotLanguage):
                        call(one, other)
            for word in ("", "x", "a" * 61):
                with self.assertRaises(NotLanguage):
                    languages.takes(language, word)

    def check_both(self, language, expected):
        self.check(language, expected, expected)

    def test_ordinary(self):
        self.check_both(LANGUAGE, True)
        self.check_both((2, ((True, (0, 0)),)), True)
        for one, other in some_languages(140, 50):
            self.check_both(one, True)
            self.check_both(other, True)

    def test_numbers_of_states(self):
        for states, is_one, is_wide in ((1, True, True), (199, True, True), (200, True, True), (201, False, True),
                                        (1999, False, True), (2000, False, True), (2001, False, False)):
            self.check(round_about(states), is_one, is_wide)
            self.check(round_about(states, 6), is_one, is_wide)
        self.check_both((2, ()), False)
        self.check_both((7, ()), False)

    def test_numbers_of_letters(self):
        for k in range(2, 7):
            self.check_both(round_about(3, k), True)
        for k in (1, 7, 8):
            self.check_both(round_about(3, k), False)
        for k in BAD_NUMBERS + (3, 4):
            self.check_both((k, LANGUAGE[1]), False)
        self.check_both((0, ((True, ()),)), False)

    def test_entries(self):
        for state, expected in ((0, True), (3, True), (4, False), (5, False), (-1, False), (-4, False),
                                (10 ** 40, False), (-10 ** 40, False)):
            self.check_both(with_row((True, (state, 0))), expected)
            self.check_both(with_row((False, (3, state))), expected)
        for many in range(8):
            self.check_both(with_row((True, (0,) * many)), many == 2)
            for k in range(2, 7):
                self.check_both((k, ((False, (0,) * many),)), many == k)

    def test_first_parts_of_rows(self):
        for part, expected in ((True, True), (False, True), (1, False), (0, False), (None, False), ("", False),
                               ("True", False), ("a", False), (2, False), (-1, False), ((), False), ((True,), False)):
            self.check_both(with_row((part, (0, 1))), expected)
            self.check_both((2, ((part, (0, 0)),)), expected)

    def test_one_wrong_row_anywhere(self):
        rows = round_about(2000)[1]
        for at in (0, 1, 1000, 1999):
            for row in ((True, (0, 2000)), (1, (0, 0)), (True, (0,)), (False, (-1, 0))):
                self.assertIs(languages.is_wide_language((2, rows[:at] + (row,) + rows[at + 1:])), False)

    def test_numbers_of_letters_that_differ(self):
        for call in JOINED:
            with self.assertRaises(BadNumber):
                call(LANGUAGE, round_about(3, 3))
            with self.assertRaises(BadNumber):
                call(round_about(2000, 3), round_about(1999, 2))


class TakesTest(unittest.TestCase):
    def test_example(self):
        for word in words_up_to(2, 5):
            self.assertIs(languages.takes(LANGUAGE, word), word in ("a", "ab"))

    def test_all_short_words(self):
        for language, _ in some_languages(141, 50):
            for word in words_up_to(language[0], 5):
                self.assertIs(languages.takes(language, word), slow_takes(language, word))

    def test_words_of_sixty_letters(self):
        self.assertIs(languages.takes(round_about(60), "a" * 60), True)
        self.assertIs(languages.takes(round_about(2000, goals=(60,)), "ab" * 30), True)
        for word in ("c", "a" * 61, "ab#", "-"):
            with self.assertRaises(NotWord):
                languages.takes(LANGUAGE, word)


class LeastTest(unittest.TestCase):
    def test_example(self):
        self.assertEqual(languages.least_language(LANGUAGE), LANGUAGE)
        larger = (2, ((False, (3, 1)), (False, (4, 1)), (True, (2, 2)), (True, (4, 5)), (False, (1, 1)),
                      (True, (1, 4))))
        self.assertEqual(languages.least_language(larger), LANGUAGE)

    def test_leastness(self):
        for language, other in some_languages(142, 300, 7):
            made = languages.least_language(language)
            self.assertEqual(made, slow_least(language))
            self.assertEqual(languages.least_language(made), made)
            self.assertIs(languages.is_language(made), True)
            # [145]: words of fewer letters than there are pairs are enough.
            longest = 6
            if len(language[1]) * len(other[1]) <= longest + 1:
                self.assertIs(made == languages.least_language(other),
                              taken(language, longest) == taken(other, longest))

    def test_wide_languages(self):
        self.assertEqual(languages.least_language(round_about(2000, goals=range(2000))), languages.all_words(2))
        self.assertEqual(languages.least_language(round_about(2000, goals=())), languages.no_word(2))
        self.assertEqual(languages.least_language(round_about(2000, 6)), round_about(2000, 6))
        self.assertEqual(languages.least_language(round_about(2000, goals=(0, 1000))), round_about(1000))
        chain = (2, tuple((at == 1999, (min(at + 1, 1999), at)) for at in range(2000)))
        self.assertEqual(languages.least_language(chain), chain)
        language = some_language(random.Random(143), 6, 2000)
        made = languages.least_language(language)
        self.assertEqual(languages.least_language(made), made)
        self.assertIsNone(languages.first_word((2, ((False, (0, 0)),))))


class MadeTest(unittest.TestCase):
    def test_all_words_and_no_word(self):
        for k in range(2, 7):
            self.assertEqual(languages.all_words(k), (k, ((True, (0,) * k),)))
            self.assertEqual(languages.no_word(k), (k, ((False, (0,) * k),)))
        for k in BAD_NUMBERS:
            for call in (languages.all_words, languages.no_word, lambda k: languages.of_words(k, []),
                         lambda k: languages.of_words(k, ["x"])):
                with self.assertRaises(BadNumber):
                    call(k)

    def test_of_words(self):
        self.assertEqual(languages.of_words(2, ["a", "ab"]), LANGUAGE)
        self.assertEqual(languages.of_words(2, ["ab", "a", "ab", "a"]), LANGUAGE)
        self.assertEqual(languages.of_words(3, []), languages.no_word(3))
        self.assertEqual(languages.of_words(2, [""]), (2, ((True, (1, 1)), (False, (1, 1)))))
        source = random.Random(144)
        for _ in range(200):
            k = source.choice((2, 3, 6))
            words = [some_word(source, k, 4) for _ in range(source.randint(0, 6))]
            given = list(words)
            made = languages.of_words(k, words)
            self.assertEqual(words, given)
            self.assertEqual(made, slow_least(made))
            self.assertEqual(languages.listed(made, 10), sorted(set(words), key=lambda word: (len(word), word)))

    def test_numbers_of_beginnings(self):
        source = random.Random(1999)
        words = ["".join(source.choice("abcdef") for _ in range(60)) for _ in range(40)]

        def many(words):
            return len({word[:length] for word in words for length in range(len(word) + 1)})

        while many(words) > 1999:
            words = words[:-1] + [words[-1][:-1]] if words[-1] else words[:-1]
        self.assertEqual(many(words), 1999)
        made = languages.of_words(6, words)
        self.assertEqual(languages.listed(made, 60), sorted(set(words), key=lambda word: (len(word), word)))
        self.assertEqual(languages.of_words(6, words + words + [word[:7] for word in words])[0], 6)
        with self.assertRaises(TooLarge):
            languages.of_words(6, words + [words[0][:59] + ("a" if words[0][59] != "a" else "b")])
        with self.assertRaises(TooLarge):
            languages.of_words(6, words + [words[0][:59] + "abcdef"[at] for at in range(6)])
        for word in ("x", "a" * 61, "#"):
            with self.assertRaises(NotWord):
                languages.of_words(6, words * 2 + ["aabbccddeeff" * 5, word])

    def test_not_words(self):
        for words in (["c"], ["a", "a" * 61], ["", "b", "#"], ["ab", "b a"]):
            with self.assertRaises(NotWord):
                languages.of_words(2, words)


class JoinedTest(unittest.TestCase):
    def check(self, made, k, expected, longest=5):
        """Check that a language is least and takes these words alone of those of at most so many letters."""
        self.assertEqual(made, slow_least(made))
        self.assertIs(languages.is_wide_language(made), True)
        self.assertEqual(made[0], k)
        self.assertEqual(taken(made, longest), expected)

    def test_word_by_word(self):
        for one, other in some_languages(145, 120):
            k = one[0]
            words = words_up_to(k, 5)
            left, right = set(taken(one, 5)), set(taken(other, 5))
            self.check(languages.both(one, other), k, [word for word in words if word in left & right])
            self.check(languages.either(one, other), k, [word for word in words if word in left | right])
            self.check(languages.others(one), k, [word for word in words if word not in left])
            self.check(languages.turned_language(one), k, [word for word in words if word[::-1] in left])
            self.check(languages.followed(one, other), k, [
                word for word in words
                if any(word[:at] in left and word[at:] in right for at in range(len(word) + 1))])

    def test_stray_and_parting(self):
        found = {True: 0, False: 0}
        for one, other in some_languages(146, 400, 3):
            words = words_up_to(one[0], 8)
            left, right = set(taken(one, 8)), set(taken(other, 8))
            stray = first_in_order(left - right)
            self.assertEqual(languages.stray(one, other), stray)
            self.assertIs(languages.is_within(one, other), stray is None)
            self.assertEqual(languages.parting(one, other), first_in_order(left ^ right))
            self.assertEqual(languages.first_word(one), next((word for word in words if word in left), None))
            found[stray is None] += 1
            self.assertIs(languages.is_within(languages.both(one, other), one), True)
            self.assertIs(languages.is_within(one, languages.either(one, other)), True)
            self.assertIsNone(languages.parting(one, languages.others(languages.others(one))))
        self.assertGreater(found[True], 50)
        self.assertGreater(found[False], 50)

    def test_the_order_of_words(self):
        one = languages.of_words(2, ["bb", "ba", "aab", "aaaa"])
        self.assertEqual(languages.first_word(one), "ba")
        self.assertEqual(languages.stray(one, languages.of_words(2, ["ba", "bb"])), "aab")
        self.assertEqual(languages.parting(languages.of_words(2, ["b"]), one), "b")
        self.assertEqual(languages.parting(one, languages.of_words(2, ["ba", "bb", "aab"])), "aaaa")

    def test_special_languages(self):
        for k in (2, 6):
            whole, none = languages.all_words(k), languages.no_word(k)
            empty = languages.of_words(k, [""])
            some = languages.of_words(k, ["ab", "b"])
            self.assertEqual(languages.both(whole, some), some)
            self.assertEqual(languages.either(none, some), some)
            self.assertEqual(languages.followed(none, whole), none)
            self.assertEqual(languages.followed(whole, none), none)
            self.assertEqual(languages.followed(empty, some), some)
            self.assertEqual(languages.followed(some, empty), some)
            self.assertEqual(languages.followed(some, some), languages.of_words(k, ["abab", "abb", "bab", "bb"]))
            self.assertEqual(languages.turned_language(some), languages.of_words(k, ["ba", "b"]))
            self.assertEqual(languages.turned_language(none), none)
            self.assertEqual(languages.turned_language(whole), whole)
            self.assertEqual(languages.others(whole), none)
            self.assertEqual(languages.others(none), whole)

    def test_states_that_no_word_reaches(self):
        unreached = (2, ((False, (0, 0)), (True, (0, 1)), (True, (2, 2))))
        self.assertEqual(languages.turned_language(unreached), languages.no_word(2))
        self.assertEqual(languages.others(unreached), languages.all_words(2))
        self.assertEqual(languages.followed(languages.all_words(2), unreached), languages.no_word(2))


class BoundTest(unittest.TestCase):
    def test_pairs(self):
        for one, other, fits in ((16, 125, True), (2000, 1, True), (1, 2000, True), (2000, 2000, True),
                                 (1999, 1, True), (23, 87, False), (2000, 3, False), (1999, 2000, False)):
            for goals in ((), (0,), range(2000)):
                # The languages are taken as they are: that they could be made smaller does not matter.
                left, right = round_about(one, goals=goals), round_about(other, goals=goals)
                for call in PAIRED:
                    if fits:
                        call(left, right)
                    else:
                        with self.assertRaises(TooLarge):
                            call(left, right)
        self.assertEqual(len(languages.both(round_about(16), round_about(125))[1]), 2000)
        self.assertEqual(languages.stray(round_about(2000), round_about(2000)), None)

    def test_followed(self):
        # Behind the empty word there is no other one in the first language.
        first = (2, ((True, (1, 1)), (False, (1, 1))))
        self.assertEqual(languages.followed(first, round_about(1999)), round_about(1999))
        with self.assertRaises(TooLarge):
            languages.followed(first, round_about(2000))
        # The first language takes no word: the sets are empty.
        self.assertEqual(languages.followed(round_about(2000, goals=()), round_about(2000)), languages.no_word(2))
        # The state 0 of the first language is met with two sets, each other one with one set.
        second = languages.of_words(2, [""])
        self.assertEqual(languages.followed(round_about(1999), second), round_about(1999))
        with self.assertRaises(TooLarge):
            languages.followed(round_about(2000), second)

    def test_followed_by_many_sets(self):
        # The words with an `a` and so many letters behind it, at the end.
        ending_in_a = (2, ((False, (1, 0)), (True, (1, 0))))

        def chain(many):
            return 2, tuple((at == many, (min(at + 1, many + 1),) * 2) for at in range(many + 2))

        self.assertEqual(len(languages.followed(ending_in_a, chain(8))[1]), 2 ** 9)
        with self.assertRaises(TooLarge):
            languages.followed(ending_in_a, chain(10))

    def test_turned_language(self):
        self.assertEqual(languages.turned_language(round_about(2000)), round_about(2000))
        # A ring, and three states beside it: a dead one, and two that no word reaches.
        for also_by_a, fits in ((False, True), (True, False)):
            many = 1997
            rows = [(at == 0, ((at + 1) % many, many)) for at in range(many)]
            rows += [(False, (many, many)), (True, (many, many)), (False, (many + 1 if also_by_a else many, many + 1))]
            if fits:
                made = languages.turned_language((2, tuple(rows)))
                self.assertEqual(languages.first_word(made), "")
            else:
                with self.assertRaises(TooLarge):
                    languages.turned_language((2, tuple(rows)))

    def test_turned_about_with_many_sets(self):
        def chain(many):
            """Return the language of the words with an `a` so many letters from the beginning."""
            rows = [(False, (at + 1, at + 1)) for at in range(many)]
            return 2, tuple(rows) + ((False, (many + 1, many + 2)), (True, (many + 1,) * 2), (False, (many + 2,) * 2))

        self.assertEqual(len(languages.turned_language(chain(9))[1]), 2 ** 10)
        with self.assertRaises(TooLarge):
            languages.turned_language(chain(10))

    def test_others_is_never_too_large(self):
        self.assertEqual(len(languages.others(round_about(2000, 6))[1]), 2000)


class FirstTest(unittest.TestCase):
    def test_ordinary(self):
        for call in (languages.first_word, languages.listed_first):
            self.assertEqual(call(LANGUAGE), "a")
            self.assertIsNone(call(languages.no_word(3)))
            self.assertEqual(call(languages.all_words(3)), "")
            self.assertEqual(call(round_about(2000, goals=(1999,))), "a" * 1999)
            self.assertEqual(call((2, ((False, (0, 1)), (False, (1, 2)), (True, (0, 0))))), "bb")
            self.assertIsNone(call((2, ((False, (0, 0)), (True, (1, 1))))))
        for one, _ in some_languages(147, 200, 4):
            expected = first_in_order(taken(one, 4))
            self.assertEqual(languages.first_word(one), expected)
            self.assertEqual(languages.listed_first(one), expected)

    def test_nothing_is_checked(self):
        self.assertEqual(languages.listed_first(round_about(3000, goals=(2999,))), "a" * 2999)
        with self.assertRaises(NotLanguage):
            languages.first_word(round_about(3000))


class ListedTest(unittest.TestCase):
    def test_counts(self):
        self.assertEqual(languages.counts(LANGUAGE, 4), [0, 1, 1, 0, 0])
        self.assertEqual(languages.counts(LANGUAGE, 0), [0])
        self.assertEqual(languages.counts(languages.all_words(6), 200), [6 ** many for many in range(201)])
        self.assertEqual(languages.counts(languages.no_word(2), 200), [0] * 201)
        for language, _ in some_languages(148, 100):
            words = taken(language, 6)
            self.assertEqual(languages.counts(language, 6),
                             [len([word for word in words if len(word) == many]) for many in range(7)])
            self.assertEqual(languages.listed(language, 6), words)
            for length in range(6):
                self.assertEqual(languages.listed(language, length), [word for word in words if len(word) <= length])
        self.assertEqual(languages.counts(round_about(2000, 6, goals=(200,)), 200), [0] * 200 + [6 ** 200])

    def test_lengths(self):
        for call in WITH_LENGTH:
            for length in (-1, 201, 10 ** 40, -10 ** 40):
                with self.assertRaises(BadNumber):
                    call(LANGUAGE, length)
                with self.assertRaises(BadNumber):
                    call(languages.all_words(6), length)
        self.assertEqual(languages.listed(LANGUAGE, 0), [])
        self.assertEqual(languages.listed(LANGUAGE, 1), ["a"])
        self.assertEqual(languages.listed(LANGUAGE, 200), ["a", "ab"])
        self.assertEqual(languages.listed(languages.all_words(3), 0), [""])
        only_a = (2, ((True, (0, 1)), (False, (1, 1))))
        self.assertEqual(languages.listed(only_a, 200), ["a" * many for many in range(201)])
        self.assertEqual(languages.listed(round_about(2000, goals=(1000,)), 200), [])

    def test_numbers_of_words(self):
        language = choosing((5, 5, 5, 4, 4))
        found = languages.listed(language, 200)
        self.assertEqual(len(found), 2000)
        self.assertEqual((found[0], found[1], found[-1]), ("aaaaa", "aaaab", "eeedd"))
        self.assertEqual(found, sorted(found))
        self.assertEqual(languages.listed(choosing((5, 5, 5, 4, 4), empty=True), 4), [""])
        for language, length in ((choosing((5, 5, 5, 4, 4), empty=True), 5), (languages.all_words(2), 10),
                                 (languages.all_words(6), 200), (languages.all_words(6), 5)):
            with self.assertRaises(TooLarge):
                languages.listed(language, length)
        self.assertEqual(languages.listed(languages.all_words(2), 9), words_up_to(2, 9))

    def test_no_list_is_shared(self):
        for call in WITH_LENGTH:
            expected = call(LANGUAGE, 3)
            call(LANGUAGE, 3).append("x")
            self.assertEqual(call(LANGUAGE, 3), expected)

    def test_wide_languages(self):
        language = some_language(random.Random(149), 6, 2000)
        self.assertEqual(sum(languages.counts(language, 3)), len(languages.listed(language, 3)))
        self.assertEqual(len(languages.counts(language, 200)), 201)
        with self.assertRaises(TooLarge):
            languages.listed(language, 200)


class FiniteTest(unittest.TestCase):
    def test_loops(self):
        self.assertIs(languages.is_finite(LANGUAGE), True)
        self.assertIs(languages.is_finite(languages.no_word(2)), True)
        self.assertIs(languages.is_finite(languages.all_words(2)), False)
        self.assertIs(languages.is_finite(choosing((5,) * 190)), True)
        # A loop that no word reaches.
        self.assertIs(languages.is_finite((2, ((True, (1, 1)), (False, (1, 1)), (True, (2, 0))))), True)
        # A loop that leads to no accepting state.
        rows = ((True, (1, 2)), (True, (2, 2)), (False, (3, 3)), (False, (2, 2)))
        self.assertIs(languages.is_finite((2, rows)), True)
        # A loop of one state, and one of several.
        self.assertIs(languages.is_finite((2, ((False, (0, 1)), (True, (2, 2)), (False, (2, 2))))), False)
        rows = ((False, (1, 3)), (False, (2, 3)), (True, (0, 3)), (False, (3, 3)))
        self.assertIs(languages.is_finite((2, rows)), False)
        self.assertIs(languages.is_finite(round_about(2000)), False)
        self.assertIs(languages.is_finite(round_about(2000, goals=())), True)

    def test_all_short_words(self):
        found = {True: 0, False: 0}
        for language, other in some_languages(150, 400, 4):
            for one in (language, languages.both(language, other)):
                many = len(one[1])
                # [144]: a language that takes a word of n letters or more is not finite, and such a loop is short.
                longer = sum(languages.counts(one, 2 * many)[many:])
                self.assertIs(languages.is_finite(one), longer == 0)
                found[longer == 0] += 1
        self.assertGreater(found[True], 50)
        self.assertGreater(found[False], 50)


class WordsTest(unittest.TestCase):
    def test_letters(self):
        for k in range(2, 7):
            made = languages.of_words(k, [LETTERS[k - 1] * 60])
            self.assertEqual(languages.first_word(made), LETTERS[k - 1] * 60)
            self.assertEqual(len(made[1]), 62)


if __name__ == "__main__":
    unittest.main()
