"""Books of stems and endings: [200] to [207], and books.py of the interface."""

import random
import unittest

from soundturns.books import (cell_machine, classes_differ, fallen, falls_together, form_at, guesses, is_book,
                              paradigm, stems_like, stems_of, told_back)
from soundturns.errors import BadNumber, NotBook, NotWord, TooLarge
from soundturns.languages import all_words, both, is_wide_language, least_language, no_word, of_words
from soundturns.lists import form_of
from soundturns.machines import is_wide
from soundturns.making import list_machine
from tests.samples import (BAD_NUMBERS, LETTERS, first_in_order, read_slowly, slow_form, slow_takes, some_rule,
                           some_word, words_up_to)
from tests.test_making import BAD_RULES, MANY_STATES, SIXTY, SIXTY_ONE

RULES = (("b", "", (), ("#",)),)
BOOK = (2, RULES, (("ab", 0), ("a", 0)), ((("", ""), ("", "a")),))
# Two classes with three cells; a form is lacking in each of them.
CLASSES = ((("", ""), None, ("b", "a")), (("", "b"), ("a", ""), None))
LACKING = (2, RULES, (("ab", 0), ("a", 1), ("", 1)), CLASSES)
GROWING = (("a", "aaa", (), ()),) * 6


def with_part(at, part):
    """Return the book of the example with another part."""
    return BOOK[:at] + (part,) + BOOK[at + 1:]


def some_ending(source, k):
    """Return an ending, or None, by a source of random numbers."""
    return None if source.random() < 0.2 else (some_word(source, k, 2), some_word(source, k, 2))


def some_book(source, k, rules):
    """Return a book with so many rules, by a source of random numbers."""
    cells = source.randint(1, 3)
    classes = tuple(tuple(some_ending(source, k) for _ in range(cells)) for _ in range(source.randint(1, 3)))
    stems = tuple((some_word(source, k, 3), source.randrange(len(classes))) for _ in range(source.randint(0, 6)))
    return k, tuple(some_rule(source, k) for _ in range(rules)), stems, classes


def some_books(seed, many):
    """Return some books."""
    source = random.Random(seed)
    return [some_book(source, source.choice((2, 2, 3)), source.randint(0, 2)) for _ in range(many)]


def slow_form_in(book, stem, index, cell):
    """Return the form of any stem in a cell of a class, or None."""
    k, rules, _, classes = book
    ending = classes[index][cell]
    return None if ending is None else form_of(k, rules, ending[0] + stem + ending[1])


def cells_of(book):
    """Return the pairs of the number of a class and that of a cell."""
    return [(index, cell) for index, endings in enumerate(book[3]) for cell in range(len(endings))]


def calls_of(book, *, index=0, cell=0, word=""):
    """Return the calls of all functions but `is_book`."""
    return [lambda: form_at(book, index, cell), lambda: paradigm(book, index), lambda: told_back(book, word),
            lambda: fallen(book), lambda: cell_machine(book, index, cell),
            lambda: falls_together(book, (index, cell), (index, cell)),
            lambda: classes_differ(book, index, index), lambda: stems_of(book, index, cell, word),
            lambda: stems_like(book, index, [(cell, word)]), lambda: stems_like(book, index, []),
            lambda: guesses(book, word)]


class FormTest(unittest.TestCase):
    def check(self, book, expected):
        """Check whether a tuple is a book; if it is none, all functions raise NotBook, whatever else is wrong."""
        self.assertIs(is_book(book), expected)
        if not expected:
            for call in calls_of(book, index=-1, cell=10 ** 40, word="#"):
                with self.assertRaises(NotBook):
                    call()

    def test_ordinary(self):
        self.check(BOOK, True)
        self.check(LACKING, True)
        self.check(with_part(2, ()), True)
        self.check((6, (), (), (((None,)),)), True)
        for book in some_books(200, 50):
            self.check(book, True)

    def test_numbers_of_letters(self):
        for k in range(2, 7):
            self.check((k, RULES, BOOK[2], BOOK[3]), True)
            letter = LETTERS[k - 1]
            self.check((k, ((letter, letter, (), ()),), ((letter, 0),), (((letter, letter),),)), True)
        for k in BAD_NUMBERS:
            self.check(with_part(0, k), False)
        for part, wrong in ((1, (("c", "", (), ()),)), (2, (("c", 0),)), (3, ((("c", ""),),))):
            self.check(with_part(part, wrong), False)
            self.check((3,) + with_part(part, wrong)[1:], True)

    def test_rules(self):
        for rule in BAD_RULES:
            self.check(with_part(1, (rule,)), False)
            self.check(with_part(1, RULES + (rule,)), False)
        self.check(with_part(1, ()), True)
        self.check(with_part(1, RULES * 8), True)
        self.check(with_part(1, RULES * 9), False)

    def test_stems(self):
        for many, expected in ((0, True), (1, True), (40, True), (41, False)):
            self.check(with_part(2, (("a", 0),) * many), expected)
        for stem, expected in (("", True), ("ab" * 10, True), ("ab" * 10 + "a", False), ("a" * 61, False),
                               ("c", False), ("#", False), ("a-", False)):
            self.check(with_part(2, ((stem, 0),)), expected)
            self.check(with_part(2, (("a", 0), (stem, 0))), expected)
        for index, expected in ((0, True), (1, False), (-1, False), (10 ** 40, False), (-10 ** 40, False)):
            self.check(with_part(2, (("a", index),)), expected)
            self.check(LACKING[:2] + ((("a", index + 1),),) + LACKING[3:], expected or index == -1)

    def test_classes(self):
        one = (("", ""), None)
        for many in range(9):
            book = (2, RULES, (), (one,) * many)
            self.check(book, 1 <= many <= 6)
        for many in range(12):
            self.check((2, RULES, (), ((None,) * many,)), 1 <= many <= 8)
            self.check((2, RULES, (), (one, (None,) * many)), many == 2)
            self.check((2, RULES, (), (one, one, (("a", "b"),) * many)), many == 2)
        self.check((2, RULES, (), ((), ())), False)

    def test_endings(self):
        for word, expected in (("", True), ("ababab", True), ("abababa", False), ("c", False), ("#", False),
                               ("a" * 61, False)):
            for ending in ((word, ""), ("", word), (word, word)):
                self.check(with_part(3, ((ending,),)), expected)
                self.check(with_part(3, ((("", ""), ending, None),)), expected)
                self.check(with_part(3, ((None, None), (None, ending))), expected)
        self.check(with_part(3, ((None,),)), True)


class ParadigmTest(unittest.TestCase):
    def test_example(self):
        self.assertEqual(paradigm(BOOK, 0), ["a", "aba"])
        self.assertEqual(paradigm(BOOK, 1), ["a", "aa"])
        self.assertEqual(form_at(BOOK, 0, 1), "aba")
        self.assertEqual(told_back(BOOK, "a"), [(0, 0), (1, 0)])
        self.assertEqual(told_back(BOOK, "aa"), [(1, 1)])
        self.assertEqual(told_back(BOOK, "ab"), [])
        self.assertEqual(fallen(BOOK), [("a", [(0, 0), (1, 0)])])

    def test_lacking_forms(self):
        self.assertEqual(paradigm(LACKING, 0), ["a", None, "baba"])
        self.assertEqual(paradigm(LACKING, 1), ["a", "aa", None])
        self.assertEqual(paradigm(LACKING, 2), ["", "a", None])
        self.assertIsNone(form_at(LACKING, 0, 1))
        self.assertIsNone(form_at(LACKING, 2, 2))
        self.assertEqual(told_back(LACKING, "a"), [(0, 0), (1, 0), (2, 1)])
        self.assertEqual(told_back(LACKING, ""), [(2, 0)])
        self.assertEqual(fallen(LACKING), [("a", [(0, 0), (1, 0), (2, 1)])])
        self.assertEqual(fallen((2, (), (("a", 0),), ((None, None),))), [])
        self.assertEqual(fallen((2, (), (), ((None, None),))), [])

    def test_some_books(self):
        for book in some_books(201, 200):
            places = {}
            for index, (stem, number) in enumerate(book[2]):
                expected = [slow_form_in(book, stem, number, cell) for cell in range(len(book[3][0]))]
                self.assertEqual(paradigm(book, index), expected)
                for cell, told in enumerate(expected):
                    self.assertEqual(form_at(book, index, cell), told)
                    if told is not None:
                        places.setdefault(told, []).append((index, cell))
            for word in [*places, "abab", ""]:
                self.assertEqual(told_back(book, word), places.get(word, []))
            # A dict keeps the order in which the words were met first.
            self.assertEqual(fallen(book), [(word, places[word]) for word in places if len(places[word]) > 1])

    def test_numbers(self):
        for index, cell in ((-1, 0), (3, 0), (0, -1), (0, 3), (10 ** 40, 10 ** 40), (-10 ** 40, 0)):
            with self.assertRaises(BadNumber):
                form_at(LACKING, index, cell)
        for index in (-1, 3, 10 ** 40):
            with self.assertRaises(BadNumber):
                paradigm(LACKING, index)
        with self.assertRaises(BadNumber):
            paradigm((2, RULES, (), CLASSES), 0)

    def test_not_word(self):
        for word in ("c", "#", "a" * 61):
            for call in (told_back, guesses):
                with self.assertRaises(NotWord):
                    call(LACKING, word)
        self.assertEqual(told_back(LACKING, "a" * 60), [])

    def test_long_forms(self):
        book = (2, GROWING, (("a", 0), ("aaa", 0)), (((("", ""), None)),))
        self.assertEqual(len(form_at(book, 0, 0)), 729)
        self.assertEqual(len(paradigm(book, 0)[0]), 729)
        self.assertIsNone(form_at(book, 1, 1))
        for call in (lambda: form_at(book, 1, 0), lambda: paradigm(book, 1), lambda: told_back(book, "a"),
                     lambda: fallen(book)):
            with self.assertRaises(TooLarge):
                call()
        for call in (lambda: form_at(book, -1, 0), lambda: form_at(book, 1, 2), lambda: paradigm(book, 2)):
            with self.assertRaises(BadNumber):
                call()
        with self.assertRaises(NotWord):
            told_back(book, "x")
        # The longest word on the way counts, also where the form is short.
        shrinking = (2, GROWING + (("a", "", (), ()),), (("aaa", 0), ("b", 0)), ((("", ""),),))
        with self.assertRaises(TooLarge):
            form_at(shrinking, 0, 0)
        self.assertEqual(form_at(shrinking, 1, 0), "b")
        # All words here have at most 32 letters before the rules change them.
        self.assertEqual(form_at((2, (), (("ab" * 10, 0),), ((("a" * 6, "b" * 6),),)), 0, 0),
                         "a" * 6 + "ab" * 10 + "b" * 6)

    def test_too_many_states_do_not_matter_here(self):
        book = (2, MANY_STATES, (("ab", 0),), BOOK[3])
        self.assertEqual(paradigm(book, 0), [form_of(2, MANY_STATES, "ab"), form_of(2, MANY_STATES, "aba")])
        self.assertEqual(fallen(book), [])

    def test_no_list_is_shared(self):
        for call in (lambda: paradigm(BOOK, 0), lambda: told_back(BOOK, "a"), lambda: told_back(BOOK, "b"),
                     lambda: fallen(BOOK), lambda: fallen(BOOK)[0][1], lambda: guesses(BOOK, "a")):
            expected = list(call())
            call().append("x")
            self.assertEqual(call(), expected)
        found = fallen(BOOK)
        found[0][1].append("x")
        self.assertEqual(told_back(BOOK, "a"), [(0, 0), (1, 0)])
        forms = [(0, "a")]
        stems_like(BOOK, 0, forms)
        self.assertEqual(forms, [(0, "a")])


class CellMachineTest(unittest.TestCase):
    def test_ordinary(self):
        self.assertEqual(cell_machine(BOOK, 0, 0), list_machine(2, RULES))
        # Each `b` waits for what stands behind it.
        self.assertEqual(list_machine(2, RULES), (2, "", (("", (("a", 0), ("", 1))), ("", (("ba", 0), ("b", 1))))))
        self.assertEqual(cell_machine(LACKING, 0, 2),
                         (2, "", (("ba", (("ba", 1), ("b", 0))), ("a", (("a", 1), ("", 0))))))
        self.assertIsNone(cell_machine(LACKING, 0, 1))
        self.assertIsNone(cell_machine(LACKING, 1, 2))

    def test_some_books(self):
        for book in some_books(203, 100):
            k, rules, _, classes = book
            whole = list_machine(k, rules)
            for index, cell in cells_of(book):
                machine = cell_machine(book, index, cell)
                if classes[index][cell] is None:
                    self.assertIsNone(machine)
                    continue
                before, after = classes[index][cell]
                self.assertIs(is_wide(machine), True)
                self.assertEqual(machine[:2], (k, read_slowly(whole, before)[0]))
                states = list(dict.fromkeys(read_slowly(whole, before + word)[1] for word in words_up_to(k, 7)))
                if len(states) == len(machine[2]):
                    for word in words_up_to(k, 3):
                        told, state = read_slowly(machine, word)
                        self.assertEqual(states[state], read_slowly(whole, before + word)[1])
                        self.assertEqual(told, read_slowly(whole, before + word)[0])
                for word in words_up_to(k, 5):
                    self.assertEqual(slow_form(machine, word), slow_form(whole, before + word + after))
                    self.assertEqual(slow_form(machine, word), slow_form_in(book, word, index, cell))

    def test_states_that_are_not_reached(self):
        # Behind a `b` at the beginning, the machine never comes back to where nothing was read.
        rules = (("a", "b", ("#",), ()),)
        whole = list_machine(2, rules)
        self.assertEqual(len(whole[2]), 2)
        self.assertEqual(cell_machine((2, rules, (), ((("b", ""),),)), 0, 0), (2, "b", (("", (("a", 0), ("b", 0))),)))

    def test_long_words(self):
        # One of the letters makes 60 letters.
        letter = first_in_order([letter for letter in "ab" if len(form_of(2, SIXTY, letter)) == 60])
        for ending, fits in (((letter, ""), True), (("", letter), True), ((letter, letter), True),
                             ((letter + letter, ""), False), (("", letter + letter), False)):
            book = (2, SIXTY, (), ((ending,),))
            calls = [lambda: cell_machine(book, 0, 0), lambda: falls_together(book, (0, 0), (0, 0)),
                     lambda: classes_differ(book, 0, 0), lambda: stems_of(book, 0, 0, "a"),
                     lambda: stems_like(book, 0, [(0, "a")]), lambda: guesses(book, "a")]
            for call in calls:
                if fits:
                    call()
                else:
                    with self.assertRaises(TooLarge):
                        call()
            self.assertEqual(stems_like(book, 0, []), all_words(2))

    def test_long_words_beside_a_lacking_form(self):
        letter = first_in_order([letter for letter in "ab" if len(form_of(2, SIXTY, letter)) == 60])
        book = (2, SIXTY, (), ((("", letter * 2), None),))
        for one, other in (((0, 0), (0, 1)), ((0, 1), (0, 0))):
            with self.assertRaises(TooLarge):
                falls_together(book, one, other)
        self.assertIsNone(falls_together(book, (0, 1), (0, 1)))
        self.assertIsNone(cell_machine(book, 0, 1))
        self.assertEqual(stems_of(book, 0, 1, "a"), no_word(2))


class FallsTogetherTest(unittest.TestCase):
    def test_ordinary(self):
        self.assertEqual(falls_together(BOOK, (0, 0), (0, 1)), "")
        self.assertIsNone(falls_together(BOOK, (0, 1), (0, 1)))
        book = (2, RULES, (), ((("", ""), ("", "b")), (("", "b"), ("a", "b"))))
        self.assertEqual(falls_together(book, (0, 0), (0, 1)), "b")
        self.assertIsNone(falls_together(book, (0, 1), (1, 0)))
        self.assertEqual(falls_together(book, (0, 0), (1, 1)), "")
        self.assertEqual(classes_differ(book, 0, 1), (0, "b"))
        self.assertIsNone(classes_differ(book, 1, 1))

    def test_lacking_forms(self):
        for one, other in (((0, 1), (0, 0)), ((0, 0), (0, 1)), ((1, 2), (0, 2)), ((0, 1), (1, 1))):
            self.assertEqual(falls_together(LACKING, one, other), "")
        self.assertIsNone(falls_together(LACKING, (0, 1), (1, 2)))
        self.assertIsNone(falls_together(LACKING, (0, 1), (0, 1)))
        self.assertEqual(classes_differ((2, RULES, (), ((None, ("", "")), (None, None))), 0, 1), (1, ""))
        self.assertEqual(classes_differ((2, RULES, (), ((None, ("", "")), (None, None))), 1, 0), (1, ""))
        self.assertIsNone(classes_differ((2, RULES, (), ((None, None), (None, None))), 0, 1))
        # In the first cell the stem is a long one, in the second one a lacking form shows it by the empty one.
        book = (2, RULES, (), ((("", ""), None), (("", "b"), ("", ""))))
        self.assertEqual(classes_differ(book, 0, 1), (0, "b"))

    def test_some_books(self):
        found = {True: 0, False: 0}
        for book in some_books(204, 80):
            k = book[0]
            words = words_up_to(k, 6 if k == 2 else 4)
            forms = {pair: [slow_form_in(book, stem, *pair) for stem in words] for pair in cells_of(book)}
            shown = {}
            for one in forms:
                for other in forms:
                    expected = next((stem for stem, left, right in zip(words, forms[one], forms[other])
                                     if left != right), None)
                    told = falls_together(book, one, other)
                    if told is not None and len(told) > len(words[-1]):
                        self.assertNotEqual(slow_form_in(book, told, *one), slow_form_in(book, told, *other))
                    else:
                        self.assertEqual(told, expected)
                    shown[one, other] = told
                    found[told is None] += 1
            for index in range(len(book[3])):
                for index2 in range(len(book[3])):
                    expected = next(((cell, shown[(index, cell), (index2, cell)]) for cell in range(len(book[3][0]))
                                     if shown[(index, cell), (index2, cell)] is not None), None)
                    self.assertEqual(classes_differ(book, index, index2), expected)
        self.assertGreater(found[True], 100)
        self.assertGreater(found[False], 100)

    def test_numbers_in_order(self):
        for one, other in (((2, 0), (0, 0)), ((0, 0), (2, 0)), ((-1, 0), (0, 0)), ((0, 0), (0, 3)), ((0, -1), (0, 0)),
                           ((0, 10 ** 40), (0, 0)), ((10 ** 40, 0), (0, 0))):
            with self.assertRaises(BadNumber):
                falls_together(LACKING, one, other)
        for one, other in ((2, 0), (0, 2), (-1, 0), (0, -1), (10 ** 40, 0)):
            with self.assertRaises(BadNumber):
                classes_differ(LACKING, one, other)


class StemsTest(unittest.TestCase):
    def test_example(self):
        self.assertEqual(stems_of(BOOK, 0, 0, "a"), of_words(2, ["a", "ab"]))
        self.assertEqual(stems_of(BOOK, 0, 1, "a"), of_words(2, [""]))
        self.assertEqual(stems_of(BOOK, 0, 1, "b"), no_word(2))
        self.assertEqual(stems_like(BOOK, 0, [(0, "a"), (1, "aba")]), of_words(2, ["ab"]))
        self.assertEqual(stems_like(BOOK, 0, [(0, "a"), (1, "a")]), no_word(2))
        self.assertEqual(stems_like(BOOK, 0, []), all_words(2))
        self.assertEqual(stems_like(BOOK, 0, [(0, "a"), (0, "a")]), of_words(2, ["a", "ab"]))
        self.assertEqual(guesses(BOOK, "a"), [(0, 0, "a"), (0, 1, "")])
        self.assertEqual(guesses(BOOK, "ab"), [(0, 0, "abb")])
        self.assertEqual(guesses(BOOK, "aba"), [(0, 0, "aba"), (0, 1, "ab")])
        self.assertEqual(guesses(BOOK, ""), [(0, 0, "")])

    def test_infinitely_many_stems(self):
        book = (2, (("b", "", (), ()),), (), ((("", ""), ("a", "")),))
        only_b = (2, ((True, (1, 0)), (False, (1, 1))))
        self.assertEqual(stems_of(book, 0, 0, ""), only_b)
        self.assertEqual(stems_of(book, 0, 1, "a"), only_b)
        self.assertEqual(stems_like(book, 0, [(1, "a"), (0, "")]), only_b)
        self.assertEqual(guesses(book, "aa"), [(0, 0, "aa"), (0, 1, "a")])

    def test_lacking_forms(self):
        self.assertEqual(stems_of(LACKING, 0, 1, "a"), no_word(2))
        self.assertEqual(stems_of(LACKING, 0, 1, ""), no_word(2))
        self.assertEqual(stems_like(LACKING, 1, [(0, "a"), (2, "a")]), no_word(2))
        self.assertEqual(guesses(LACKING, "a"), [(0, 0, "a"), (1, 0, "a"), (1, 1, "")])
        self.assertEqual(guesses((2, (), (), ((None, None),)), "a"), [])

    def test_some_books(self):
        source = random.Random(205)
        for book in some_books(205, 50):
            k = book[0]
            stems = words_up_to(k, 4)
            for word in ("", "a", "ab", some_word(source, k, 4)):
                guessed = []
                for index, cell in cells_of(book):
                    language = stems_of(book, index, cell, word)
                    self.assertIs(is_wide_language(language), True)
                    self.assertEqual(least_language(language), language)
                    found = [stem for stem in stems if slow_form_in(book, stem, index, cell) == word]
                    self.assertEqual([stem for stem in stems if slow_takes(language, stem)], found)
                    self.assertEqual(stems_like(book, index, [(cell, word)]), language)
                    if found:
                        guessed.append((index, cell, found[0]))
                self.assertEqual([guess for guess in guesses(book, word) if len(guess[2]) <= 4], guessed)
            # [206]: a word stands at a place exactly if the stem is in the language.
            for stem, index in book[2]:
                for cell, told in enumerate([slow_form_in(book, stem, index, cell) for cell in range(len(book[3][0]))]):
                    if told is not None:
                        self.assertIs(slow_takes(stems_of(book, index, cell, told), stem), True)

    def test_several_forms(self):
        for book in some_books(206, 40):
            k = book[0]
            for stem in words_up_to(k, 2):
                for index in range(len(book[3])):
                    told = [(cell, slow_form_in(book, stem, index, cell)) for cell in range(len(book[3][0]))]
                    told = [pair for pair in told if pair[1] is not None]
                    language = stems_like(book, index, told)
                    self.assertIs(slow_takes(language, stem), True)
                    expected = all_words(k)
                    for cell, word in told:
                        expected = both(expected, stems_of(book, index, cell, word))
                    self.assertEqual(language, expected)

    def test_errors_in_order(self):
        for index, cell in ((2, 0), (-1, 0), (0, 3), (0, -1), (2, 3), (10 ** 40, 0), (0, 10 ** 40)):
            with self.assertRaises(BadNumber):
                cell_machine(LACKING, index, cell)
            for word in ("", "x"):
                with self.assertRaises(BadNumber):
                    stems_of(LACKING, index, cell, word)
        for word in ("x", "c", "a" * 61):
            with self.assertRaises(NotWord):
                stems_of(LACKING, 0, 0, word)
            with self.assertRaises(NotWord):
                stems_of(LACKING, 0, 1, word)
        for index, forms, error in ((2, [], BadNumber), (-1, [], BadNumber), (2, [(0, "x")], BadNumber),
                                    (0, [(3, "x")], BadNumber), (0, [(0, "x"), (3, "a")], NotWord),
                                    (0, [(0, "a"), (-1, "x")], BadNumber), (0, [(0, "a"), (0, "a" * 61)], NotWord),
                                    (0, [(3, "a"), (0, "x")], BadNumber), (0, [(1, "x"), (9, "y")], NotWord)):
            with self.assertRaises(error):
                stems_like(LACKING, index, forms)


class TooLargeTest(unittest.TestCase):
    def test_the_rules_are_too_large(self):
        for rules in (MANY_STATES, SIXTY_ONE):
            book = (2, rules, (), CLASSES)
            calls = [lambda: cell_machine(book, 0, 0), lambda: cell_machine(book, 0, 1),
                     lambda: falls_together(book, (0, 0), (0, 0)), lambda: falls_together(book, (0, 1), (0, 1)),
                     lambda: falls_together(book, (0, 1), (0, 0)), lambda: classes_differ(book, 0, 0),
                     lambda: classes_differ(book, 0, 1), lambda: stems_of(book, 0, 0, "a"),
                     lambda: stems_of(book, 0, 1, "a"), lambda: stems_like(book, 0, [(1, "a")]),
                     lambda: stems_like(book, 1, [(0, "a"), (1, "a")]), lambda: guesses(book, "a"),
                     lambda: guesses((2, rules, (), ((None,),)), "a")]
            for call in calls:
                with self.assertRaises(TooLarge):
                    call()
            self.assertIs(is_book(book), True)
            self.assertEqual(stems_like(book, 0, []), all_words(2))
            self.assertEqual(fallen(book), [])
            self.assertEqual(told_back(book, "a"), [])
            for call, error in ((lambda: cell_machine(book, 2, 0), BadNumber), (lambda: guesses(book, "x"), NotWord),
                                (lambda: stems_of(book, 0, 1, "x"), NotWord),
                                (lambda: stems_of(book, 0, 3, "x"), BadNumber),
                                (lambda: falls_together(book, (0, 0), (0, 3)), BadNumber),
                                (lambda: classes_differ(book, 0, 2), BadNumber),
                                (lambda: stems_like(book, 2, [(1, "a")]), BadNumber),
                                (lambda: stems_like(book, 0, [(1, "x")]), NotWord)):
                with self.assertRaises(error):
                    call()

    def test_too_many_pairs(self):
        # The machine of the rules has hundreds of states, and a word of many letters as many more.
        rules = MANY_STATES[:5]
        states = len(list_machine(2, rules)[2])
        self.assertGreater(states, 300)
        book = (2, rules, (), ((("", ""),),))
        word = form_of(2, rules, "abbaabab" * 7)
        with self.assertRaises(TooLarge):
            stems_of(book, 0, 0, word)
        with self.assertRaises(TooLarge):
            stems_like(book, 0, [(0, "a"), (0, word)])
        with self.assertRaises(TooLarge):
            guesses(book, word)
        self.assertIs(slow_takes(stems_of(book, 0, 0, "a"), "a"), form_of(2, rules, "a") == "a")

    def test_the_largest_book(self):
        source = random.Random(40)
        classes = tuple(tuple((some_word(source, 6, 6), some_word(source, 6, 6)) for _ in range(8)) for _ in range(6))
        stems = tuple((some_word(source, 6, 20), source.randrange(6)) for _ in range(40))
        book = (6, tuple(some_rule(source, 6) for _ in range(8)), stems, classes)
        self.assertIs(is_book(book), True)
        word = form_at(book, 39, 7)
        self.assertIn((39, 7), told_back(book, word))
        self.assertEqual(len(paradigm(book, 0)), 8)
        self.assertEqual([pair for pair in fallen(book) if len(pair[1]) < 2], [])
        stem, index = stems[39]
        self.assertIn((index, 7), [guess[:2] for guess in guesses(book, word)])
        self.assertIs(slow_takes(stems_of(book, index, 7, word), stem), True)
        self.assertEqual(falls_together(book, (0, 0), (0, 0)), None)
        self.assertEqual(classes_differ(book, 0, 0), None)
        self.assertIs(slow_takes(stems_like(book, index, [(cell, form_at(book, 39, cell)) for cell in range(8)]), stem),
                      True)


if __name__ == "__main__":
    unittest.main()
