"""Whether different words have the same form: [180] to [187], and apart.py of the interface."""

import random
import unittest

from soundturns.apart import closed_places, following, is_closed_list, is_one_to_one, starts, two_words
from soundturns.errors import BadNumber, NotMachine, TooLarge
from soundturns.machines import still
from soundturns.making import list_machine, rule_machine
from soundturns.sources import all_sources
from tests.samples import (LETTERS, MACHINE, ring, slow_form, some_machine, some_rule, states_by_words,
                           words_up_to)

DONE = (-1, -1, ("", ""))
EMPTY = ("", "")
LOOKING = (closed_places, two_words, is_one_to_one)


def slow_left(one, other):
    """Return what is left of both words, or None if they do not fit."""
    many = min(len(one), len(other))
    return (one[many:], other[many:]) if one[:many] == other[:many] else None


def slow_moves(machine, state):
    """Return the moves of a state, the end first, as pairs of what is written and the state then."""
    last, entries = machine[2][state]
    return [(last, -1)] + list(entries)


def slow_starts(machine):
    """Return the beginnings, as [182] and [186] say."""
    found = []
    for state in states_by_words([[after for _, after in row[1]] for row in machine[2]]):
        moves = slow_moves(machine, state)
        for at in range(len(moves)):
            for at2 in range(at + 1, len(moves)):
                left = slow_left(moves[at][0], moves[at2][0])
                if left is not None:
                    found.append((moves[at][1], moves[at2][1], left))
    return list(dict.fromkeys(found))


def slow_following(machine, place):
    """Return the places that follow, as [183] says."""
    state, state2, (left, left2) = place
    if left != "" or (left2 == "" and state == -1):
        if state2 == -1:
            return []
        ways = [(state, after, slow_left(left, left2 + out)) for out, after in slow_moves(machine, state2)]
    else:
        if state == -1:
            return []
        ways = [(after, state2, slow_left(left + out, left2)) for out, after in slow_moves(machine, state)]
    return [way for way in ways if way[2] is not None]


def slow_places(machine):
    """Return the least closed list, or None, as [186] says."""
    found = slow_starts(machine)
    at = 0
    while at < len(found):
        found.extend(place for place in dict.fromkeys(slow_following(machine, found[at])) if place not in found)
        if DONE in found:
            return None
        at += 1
    return found


def copying(states, k, *, aside=0, ends=False):
    """Return a machine that writes each letter, whose states follow one another for ever.

    It has k beginnings for each state. In the states from 5 on, every other one up to as many as `aside`
    tells, the last letter leads one state further, to a beginning of another state. If `ends` is True, the
    state 3 has the `last` that is `a`, so the word there has the form of a longer one.
    """
    rows = []
    for at in range(states):
        entries = [[letter, (at + 1) % states] for letter in LETTERS[:k]]
        if at >= 5 and at % 2 and (at - 5) // 2 < aside:
            entries[-1][1] = at + 2
        rows.append(("a" if ends and at == 3 else "", tuple(tuple(entry) for entry in entries)))
    return k, "", tuple(rows)


class StartsTest(unittest.TestCase):
    def test_examples(self):
        self.assertEqual(starts(MACHINE), [(-1, 1, EMPTY), (-1, 2, EMPTY), (1, 2, EMPTY)])
        self.assertEqual(starts(still(2)), [(-1, 0, ("", "a")), (-1, 0, ("", "b"))])
        self.assertEqual(starts(still(3)), [(-1, 0, ("", letter)) for letter in "abc"])

    def test_the_order(self):
        machine = (2, "a", (("ab", (("a", 2), ("abb", 1))), ("", (("b", 1), ("bb", 0))), ("b", (("", 2), ("a", 1)))))
        # The states come in the order 0, 2, 1.
        self.assertEqual(starts(machine), [
            (-1, 2, ("b", "")), (-1, 1, ("", "b")), (2, 1, ("", "bb")),
            (2, 1, ("", "a")), (-1, 0, ("", "bb")), (1, 0, ("", "b"))])

    def test_states_that_no_word_reaches(self):
        machine = (2, "", (("", (("a", 0), ("b", 0))), ("", (("", 1), ("", 0)))))
        self.assertEqual(starts(machine), starts(still(2)))
        self.assertIs(is_one_to_one(machine), True)

    def test_some_machines(self):
        source = random.Random(182)
        for _ in range(300):
            machine = some_machine(source, source.choice((2, 3)), source.randint(1, 4), source.randint(0, 3))
            found = starts(machine)
            self.assertEqual(found, slow_starts(machine))
            self.assertEqual(len(found), len(set(found)))

    def test_never_too_large(self):
        self.assertEqual(len(starts(ring(2000, 6))), 4000)
        self.assertEqual(len(starts(some_machine(random.Random(183), 6, 2000, 2))) > 4000, True)


class FollowingTest(unittest.TestCase):
    def test_examples(self):
        self.assertEqual(following(MACHINE, (1, 2, EMPTY)),
                         [(-1, 2, ("a", "")), (1, 2, ("b", "")), (2, 2, ("a", ""))])
        self.assertEqual(following(MACHINE, (1, 2, ("b", ""))),
                         [(1, -1, EMPTY), (1, 1, EMPTY), (1, 2, EMPTY)])
        self.assertEqual(following(MACHINE, (1, 2, ("", "b"))), [(1, 2, EMPTY)])
        self.assertEqual(following(MACHINE, (1, 2, ("", "ab"))), [(-1, 2, ("", "b")), (2, 2, ("", "b"))])
        self.assertEqual(following(MACHINE, (-1, 1, EMPTY)),
                         [(-1, -1, ("", "a")), (-1, 1, ("", "b")), (-1, 2, ("", "a"))])
        self.assertEqual(following(MACHINE, (0, -1, EMPTY)), [(-1, -1, EMPTY), (1, -1, EMPTY), (2, -1, EMPTY)])

    def test_the_copy_that_goes_on_has_come_to_its_end(self):
        for place in (DONE, (-1, 0, ("", "a")), (0, -1, ("a", "")), (-1, -1, ("", "ab")), (-1, -1, ("b", ""))):
            self.assertEqual(following(MACHINE, place), [])

    def test_a_place_to_which_several_moves_lead(self):
        machine = (2, "", (("", (("", 0), ("", 0))),))
        self.assertEqual(following(machine, (0, 0, EMPTY)), [(-1, 0, EMPTY), (0, 0, EMPTY), (0, 0, EMPTY)])
        self.assertEqual(following(machine, (0, 0, ("ab", ""))), [(0, -1, ("ab", ""))] + [(0, 0, ("ab", ""))] * 2)

    def test_words_of_any_length(self):
        self.assertEqual(following(still(2), (0, 0, ("a" * 500, ""))),
                         [(0, -1, ("a" * 500, "")), (0, 0, ("a" * 499, ""))])
        self.assertEqual(following(still(2), (0, 0, ("", "ba" * 500))),
                         [(-1, 0, ("", "ba" * 500)), (0, 0, ("", ("ba" * 500)[1:]))])

    def test_some_machines(self):
        source = random.Random(184)
        for _ in range(300):
            k, states = source.choice((2, 3)), source.randint(1, 4)
            machine = some_machine(source, k, states, source.randint(0, 3))
            for state in range(-1, states):
                for state2 in range(-1, states):
                    for word in words_up_to(k, 2):
                        for words in ((word, ""), ("", word)):
                            place = (state, state2, words)
                            self.assertEqual(following(machine, place), slow_following(machine, place))

    def test_bad_places(self):
        for place in ((3, 0, EMPTY), (0, 3, EMPTY), (-2, 0, EMPTY), (0, -2, EMPTY), (-3, -1, EMPTY),
                      (10 ** 40, 0, EMPTY), (0, -10 ** 40, EMPTY), (0, 0, ("a", "b")), (0, 0, ("a", "a")),
                      (-1, -1, ("ab", "a")), (0, 0, ("c", "")), (0, 0, ("", "#")), (0, 0, ("", "aaac")),
                      (0, 0, ("", "a" * 5000 + "x")), (-1, -1, ("x", "")), (0, 0, ("", "A")), (0, 0, ("a b", ""))):
            with self.assertRaises(BadNumber):
                following(MACHINE, place)
        following(ring(2000), (1999, -1, EMPTY))
        following(still(6), (0, 0, ("f", "")))

    def test_no_list_is_shared(self):
        for call in (starts, lambda machine: following(machine, (1, 2, EMPTY))):
            expected = call(MACHINE)
            call(MACHINE).append("x")
            self.assertEqual(call(MACHINE), expected)
        closed_places(still(2)).append("x")
        self.assertEqual(closed_places(still(2)), starts(still(2)))


class ClosedPlacesTest(unittest.TestCase):
    def test_examples(self):
        self.assertIsNone(closed_places(MACHINE))
        self.assertIs(is_one_to_one(MACHINE), False)
        for k in range(2, 7):
            self.assertEqual(closed_places(still(k)), [(-1, 0, ("", letter)) for letter in LETTERS[:k]])
            self.assertIs(is_one_to_one(still(k)), True)

    def test_ways_that_go_on(self):
        machine = (2, "", (("", (("ab", 0), ("a", 1))), ("b", (("abb", 1), ("bb", 0)))))
        self.assertEqual(closed_places(machine), slow_places(machine))
        self.assertEqual(starts((2, "", (("", (("a", 0), ("ab", 0))),))),
                         [(-1, 0, ("", "a")), (-1, 0, ("", "ab")), (0, 0, ("", "b"))])
        # One copy writes `a`, the other one `ab`, and what begins with `b` never follows, unless the word ends.
        self.assertEqual(closed_places((2, "", (("", (("a", 0), ("ab", 0))),))),
                         [(-1, 0, ("", "a")), (-1, 0, ("", "ab")), (0, 0, ("", "b")), (-1, 0, ("", "b"))])

    def test_some_machines(self):
        source = random.Random(186)
        found = {True: 0, False: 0}
        for _ in range(600):
            k, states = source.choice((2, 2, 3)), source.randint(1, 3)
            machine = some_machine(source, k, states, source.randint(1, 4))
            places = closed_places(machine)
            self.assertEqual(places, slow_places(machine))
            forms = [slow_form(machine, word) for word in words_up_to(k, 6)]
            self.assertIs(is_one_to_one(machine), places is not None)
            if places is None:
                one, other = two_words(machine)
                self.assertEqual(slow_form(machine, one), slow_form(machine, other))
                self.assertLess((len(one), one), (len(other), other))
                self.assertEqual((one + other).strip(LETTERS[:k]), "")
            else:
                self.assertEqual(len(set(forms)), len(forms))
                self.assertIsNone(two_words(machine))
                self.assertIs(is_closed_list(machine, places), True)
            found[places is not None] += 1
        self.assertGreater(found[True], 50)
        self.assertGreater(found[False], 50)

    def test_machines_of_lists(self):
        source = random.Random(187)
        found = {True: 0, False: 0}
        for _ in range(100):
            machine = list_machine(2, tuple(some_rule(source, 2) for _ in range(source.randint(0, 2))))
            forms = [slow_form(machine, word) for word in words_up_to(2, 8)]
            if len(set(forms)) < len(forms):
                self.assertIs(is_one_to_one(machine), False)
                # [125]: some word has two sources.
                one, other = two_words(machine)
                both = all_sources(machine, slow_form(machine, one)[:60])
                self.assertTrue(both is None or len(slow_form(machine, one)) > 60 or {one, other} <= set(both))
            found[is_one_to_one(machine)] += 1
        self.assertGreater(found[True], 5)
        self.assertGreater(found[False], 20)

    def test_two_words(self):
        for machine in (MACHINE, rule_machine(2, ("a", "", (), ())), ring(7, 3), rule_machine(3, ("c", "b", (), ()))):
            one, other = two_words(machine)
            self.assertEqual(slow_form(machine, one), slow_form(machine, other))
            self.assertLess((len(one), one), (len(other), other))
        # The letters with the same form stand behind a long way.
        rows = [("", (("a", at + 1), ("b", 0))) for at in range(70)] + [("", (("a", 70), ("a", 70)))]
        one, other = two_words((2, "", tuple(rows)))
        self.assertEqual(slow_form((2, "", tuple(rows)), one), slow_form((2, "", tuple(rows)), other))
        self.assertGreater(len(one), 70)


class ClosedListTest(unittest.TestCase):
    def machines(self):
        """Return machines that are one to one, with their least closed lists."""
        source = random.Random(188)
        found = []
        while len(found) < 40:
            machine = some_machine(source, 2, source.randint(1, 3), 4)
            places = closed_places(machine)
            if places is not None:
                found.append((machine, places))
        return found

    def test_left_out_doubled_and_turned(self):
        for machine, places in self.machines():
            self.assertIs(is_closed_list(machine, places), True)
            self.assertIs(is_closed_list(machine, places[::-1]), True)
            for at in range(len(places)):
                self.assertIs(is_closed_list(machine, places[:at] + places[at + 1:]), False)
                self.assertIs(is_closed_list(machine, places + places[at:at + 1]), False)
                self.assertIs(is_closed_list(machine, places[at:at + 1] + places), False)
        self.assertIs(is_closed_list(still(2), []), False)
        self.assertIs(is_closed_list(MACHINE, []), False)
        self.assertIs(is_closed_list(MACHINE, starts(MACHINE)), False)

    def test_added(self):
        places = starts(still(2))
        for place, expected in (((-1, 0, ("", "ab")), True), ((0, -1, ("b", "")), True), ((-1, -1, ("", "b")), True),
                                ((-1, 0, ("", "a" * 5000)), True), ((0, 0, ("a", "")), False),
                                ((-1, 0, EMPTY), False), ((0, 0, EMPTY), False), (DONE, False)):
            self.assertIs(is_closed_list(still(2), places + [place]), expected, place)
            self.assertIs(is_closed_list(still(2), [place] + places), expected, place)

    def test_done(self):
        # A list with all that follows, the place that is done among them.
        places = starts(MACHINE)
        for place in places:
            places.extend(after for after in dict.fromkeys(slow_following(MACHINE, place)) if after not in places)
        self.assertIn(DONE, places)
        self.assertIs(is_closed_list(MACHINE, places), False)
        places.remove(DONE)
        self.assertIs(is_closed_list(MACHINE, places), False)

    def test_any_tuples(self):
        places = starts(still(2))
        for place in ((1, 0, ("", "")), (0, 1, ("", "a")), (-2, 0, ("", "a")), (-1, -2, ("", "")),
                      (10 ** 40, -10 ** 40, ("", "")), (-1, 0, ("b", "a")), (-1, -1, ("a", "a")), (-1, 0, ("", "c")),
                      (-1, 0, ("", "#")), (0, -1, ("x", "")), (-1, -1, ("", "a" * 500 + "x"))):
            self.assertIs(is_closed_list(still(2), places + [place]), False, place)
            self.assertIs(is_closed_list(still(2), [place] + places), False, place)
            self.assertIs(is_closed_list(still(2), [place]), False, place)
            self.assertIs(is_closed_list(still(2), [place, places[1]]), False, place)

    def test_the_list_is_not_changed(self):
        places = starts(still(2))
        self.assertIs(is_closed_list(still(2), places), True)
        self.assertEqual(places, starts(still(2)))

    def test_no_bound(self):
        machine = copying(2000, 3)
        self.assertIs(is_closed_list(machine, starts(machine)), True)
        self.assertIs(is_closed_list(machine, starts(machine)[:-1]), False)
        self.assertIs(is_closed_list(ring(2000), []), False)


class BoundTest(unittest.TestCase):
    def test_numbers_of_places(self):
        for machine, many in ((copying(2000, 2), 4000), (copying(1333, 3), 3999), (copying(1334, 3, aside=2), 4000),
                              (copying(1334, 3, aside=3), 3999)):
            self.assertEqual(len(starts(machine)), many)
            self.assertEqual(closed_places(machine), starts(machine))
            self.assertIsNone(two_words(machine))
            self.assertIs(is_one_to_one(machine), True)
        for machine, many in ((copying(1334, 3), 4002), (copying(1334, 3, aside=1), 4001), (copying(2000, 6), 12000)):
            self.assertEqual(len(starts(machine)), many)
            for call in LOOKING:
                with self.assertRaises(TooLarge):
                    call(machine)

    def test_the_place_that_is_done_counts(self):
        # It follows from a beginning, and no other place follows from the beginnings before that one.
        machine = copying(1334, 3, aside=1, ends=True)
        self.assertEqual(len(starts(machine)), 3999)
        self.assertIsNone(closed_places(machine))
        self.assertIs(is_one_to_one(machine), False)
        one, other = two_words(machine)
        self.assertEqual(slow_form(machine, one), slow_form(machine, other))
        self.assertLess(one, other)
        machine = copying(1334, 3, ends=True)
        self.assertEqual(len(starts(machine)), 4000)
        for call in LOOKING:
            with self.assertRaises(TooLarge):
                call(machine)

    def test_places_behind_the_one_that_is_done_do_not_count(self):
        # All words have the same form; behind the second beginning, place by place, there are many more.
        self.assertIsNone(closed_places(ring(2)))
        machine = (2, "", tuple(("", (("", (at + 1) % 1000), ("", (at * 7 + 1) % 1000))) for at in range(1000)))
        self.assertIs(is_one_to_one(machine), False)
        one, other = two_words(machine)
        self.assertNotEqual(one, other)

    def test_not_machine(self):
        bad = ring(2001)
        for call in (*LOOKING, starts):
            with self.assertRaises(NotMachine):
                call(bad)
        for places in ([], [(9, 9, ("x", "y"))]):
            with self.assertRaises(NotMachine):
                is_closed_list(bad, places)
        for place in (DONE, (9, 9, ("x", "y"))):
            with self.assertRaises(NotMachine):
                following(bad, place)


if __name__ == "__main__":
    unittest.main()
