"""Traces, pieces and lost letters: [42] and [46], and traces.py of the interface."""

import unittest

from soundturns import traces
from soundturns.errors import BadNumber, NotRule, NotWord, TooLarge
from soundturns.lists import form_of
from soundturns.texts import read_rules
from tests.samples import BAD_NUMBERS, all_rules, slow_indexes, words_up_to

EXAMPLE = read_rules(2, "a > b / _ b ; b > - / b _ #")
BROKEN = ("a", "bbbb", (), ())
TRIPLE = ("a", "aaa", (), ())
CALLS = (traces.trace_of, traces.pieces, traces.lost,
         lambda k, rules, word: traces.piece_of(k, rules, word, 0))


def slow_trace(rules, word):
    """Return the trace and the form of a word, letter by letter."""
    origins = list(range(len(word)))
    for rule in rules:
        places = slow_indexes(rule, word)
        made = [(origin, sign) for at, origin in enumerate(origins)
                for sign in (rule[1] if at in places else word[at])]
        origins = [origin for origin, _ in made]
        word = "".join(sign for _, sign in made)
    return origins, word


class TraceTest(unittest.TestCase):
    def test_example(self):
        self.assertEqual(traces.trace_of(2, EXAMPLE, "aab"), [0, 1])
        self.assertEqual(traces.pieces(2, EXAMPLE, "aab"), ["a", "b", ""])
        self.assertEqual(traces.lost(2, EXAMPLE, "aab"), [2])
        self.assertEqual([traces.piece_of(2, EXAMPLE, "aab", at) for at in range(3)], ["a", "b", ""])

    def test_longer_pieces(self):
        rules = read_rules(2, "a > bab / _ ; b > - / # _ ; b > aa / _ #")
        self.assertEqual(traces.pieces(2, rules, "aba"), ["ab", "b", "baaa"])
        self.assertEqual(traces.trace_of(2, rules, "aba"), [0, 0, 1, 2, 2, 2, 2])
        self.assertEqual(traces.lost(2, rules, "aba"), [])
        self.assertEqual(traces.lost(2, rules, "bab"), [0])
        self.assertEqual(traces.piece_of(2, rules, "aba", 2), "baaa")

    def test_all_letters_are_lost(self):
        rules = read_rules(2, "a > - / _ ; b > - / _")
        self.assertEqual(traces.lost(2, rules, "abba"), [0, 1, 2, 3])
        self.assertEqual(traces.pieces(2, rules, "abba"), ["", "", "", ""])
        self.assertEqual(traces.trace_of(2, rules, "abba"), [])

    def test_a_lost_letter_stays_lost(self):
        rules = read_rules(2, "a > - / _ ; b > bb / _")
        self.assertEqual(traces.pieces(2, rules, "aba"), ["", "bb", ""])

    def test_the_empty_word_and_the_empty_list(self):
        for rules in ((), EXAMPLE):
            self.assertEqual(traces.trace_of(2, rules, ""), [])
            self.assertEqual(traces.pieces(2, rules, ""), [])
            self.assertEqual(traces.lost(2, rules, ""), [])
        self.assertEqual(traces.trace_of(2, (), "ab" * 30), list(range(60)))
        self.assertEqual(traces.pieces(2, (), "aba"), ["a", "b", "a"])
        self.assertEqual(traces.lost(2, (), "aba"), [])

    def test_against_a_slow_way(self):
        rules = all_rules(2)
        for begin in range(0, len(rules), 97):
            chosen = tuple(rules[(begin + 607 * step) % len(rules)] for step in range(begin % 4))
            for word in words_up_to(2, 4):
                trace, form = slow_trace(chosen, word)
                pieces = traces.pieces(2, chosen, word)
                self.assertEqual(traces.trace_of(2, chosen, word), trace)
                self.assertEqual(trace, sorted(trace))
                self.assertEqual(len(pieces), len(word))
                self.assertEqual("".join(pieces), form)
                self.assertEqual(form, form_of(2, chosen, word))
                self.assertEqual([len(piece) for piece in pieces],
                                 [trace.count(at) for at in range(len(word))])
                self.assertEqual([traces.piece_of(2, chosen, word, at) for at in range(len(word))],
                                 pieces)
                self.assertEqual(traces.lost(2, chosen, word),
                                 [at for at in range(len(word)) if at not in trace])

    def test_results_share_no_list(self):
        for call in CALLS[:3]:
            told = call(2, EXAMPLE, "aab")
            call(2, EXAMPLE, "aab").append(7)
            self.assertEqual(call(2, EXAMPLE, "aab"), told)


class ErrorTest(unittest.TestCase):
    def test_order(self):
        large = (TRIPLE,) * 8
        for call in CALLS:
            for k in BAD_NUMBERS:
                with self.assertRaises(BadNumber):
                    call(k, (BROKEN,), "x")
            for rules in ((BROKEN,), (TRIPLE,) * 9):
                with self.assertRaises(NotRule):
                    call(2, rules, "x")
            for word in ("x", "c", "a" * 61):
                with self.assertRaises(NotWord):
                    call(2, large, word)
            with self.assertRaises(TooLarge):
                call(2, large, "a" * 60)

    def test_too_large(self):
        for call in CALLS:
            call(2, (TRIPLE,) * 4, "a" * 24)
            with self.assertRaises(TooLarge):
                call(2, (TRIPLE,) * 4, "a" * 25)
            with self.assertRaises(TooLarge):
                call(2, (TRIPLE,) * 4 + (("a", "", (), ()),), "a" * 25)

    def test_exactly_two_thousand_letters(self):
        # 60 letters become 120, 122, 124, 125, and these are doubled four times.
        double = ("a", "aa", (), ())
        longer = ("a", "aaa", ("#",), ())
        rules = (double, longer, longer, ("a", "aa", ("#",), ())) + (double,) * 4
        self.assertEqual(traces.trace_of(2, rules, "a" * 60), slow_trace(rules, "a" * 60)[0])
        self.assertEqual(traces.piece_of(2, rules, "a" * 60, 59), "a" * 32)
        # 56 letters become 111, 333, 666, 667, 2001.
        more = (("a", "aa", ("a",), ()), TRIPLE, double, ("a", "aa", ("#",), ()), TRIPLE)
        for call in CALLS:
            with self.assertRaises(TooLarge):
                call(2, more, "a" * 56)

    def test_indexes_at_which_there_is_no_letter(self):
        for word in ("", "a", "aab", "ab" * 30):
            for at in (-1, -len(word) - 1, -len(word), len(word), len(word) + 1, 10 ** 30, -10 ** 30):
                with self.subTest(word=word, at=at), self.assertRaises(BadNumber):
                    traces.piece_of(2, EXAMPLE, word, at)

    def test_order_of_piece_of(self):
        for at in (-1, 60):
            with self.assertRaises(NotRule):
                traces.piece_of(2, (BROKEN,), "x", at)
            with self.assertRaises(NotWord):
                traces.piece_of(2, EXAMPLE, "x", at)
            with self.assertRaises(BadNumber):
                traces.piece_of(2, (TRIPLE,) * 8, "a" * 60, at)


if __name__ == "__main__":
    unittest.main()
