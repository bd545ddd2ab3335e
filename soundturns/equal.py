"""Whether two machines change all words alike: closed tables, and first words whose forms differ."""

from soundturns.errors import TooLarge
from soundturns.machines import check_both, form_from, read_on
from soundturns.making import list_machine
from soundturns.words import LETTERS, check_word, left_over

ALIKE = "alike"
APART = "apart"
MOST_PAIRS = 4000


def lead(one, other, word):
    """Return the lead of two wide machines behind a word, or None."""
    check_both(one, other)
    check_word(one[0], word)
    return left_over(one[1] + read_on(one[2], 0, word)[0], other[1] + read_on(other[2], 0, word)[0])


def _start(one, other):
    """Return the tuple of both states and the lead behind the empty word; the lead may be None."""
    return 0, 0, left_over(one[1], other[1])


def _agrees(one, other, entry):
    """Return True if the forms of the words that lead to a tuple are equal, otherwise False."""
    state, state2, left = entry
    if left is None:
        return False
    return left[0] + one[2][state][0] == left[1] + other[2][state2][0]


def _entries_after(one, other, entry):
    """Return the tuples behind a tuple, one for each letter; a lead may be None."""
    state, state2, (left, left2) = entry
    found = []
    for (out, after), (out2, after2) in zip(one[2][state][1], other[2][state2][1]):
        found.append((after, after2, left_over(left + out, left2 + out2)))
    return found


def _search(one, other):
    """Return the least table as far as it goes, and the first word whose forms differ, or None."""
    start = _start(one, other)
    if not _agrees(one, other, start):
        return [], ""
    table = [start]
    words = [""]
    met = {(0, 0): True}
    at = 0
    while at < len(table):
        entries = _entries_after(one, other, table[at])
        for letter, entry in zip(LETTERS, entries):
            # Where the forms are equal, the lead is told by the states: a pair is looked at once.
            if not _agrees(one, other, entry):
                return table, words[at] + letter
            if (entry[0], entry[1]) not in met:
                met[entry[0], entry[1]] = True
                table.append(entry)
                words.append(words[at] + letter)
                if len(table) > MOST_PAIRS:
                    raise TooLarge("more than 4000 pairs of states are met")
        at += 1
    return table, None


def _is_entry(one, other, entry):
    """Return True if there are both states of a tuple and one of its words is empty, otherwise False."""
    state, state2, (left, left2) = entry
    has_states = 0 <= state < len(one[2]) and 0 <= state2 < len(other[2])
    return has_states and "" in (left, left2)


def is_closed(one, other, table):
    """Return True if a list is a closed table of two wide machines, otherwise False."""
    check_both(one, other)
    entries = {entry: True for entry in table}
    if len(entries) < len(table) or _start(one, other) not in entries:
        return False
    for entry in table:
        if not _is_entry(one, other, entry) or not _agrees(one, other, entry):
            return False
        for after in _entries_after(one, other, entry):
            if after not in entries:
                return False
    return True


def least_table(one, other):
    """Return the least table of two wide machines, or None if they do not change all words alike."""
    check_both(one, other)
    table, word = _search(one, other)
    return table if word is None else None


def first_apart(one, other):
    """Return what `first_word` returns; only the number of the pairs that are met is checked."""
    return _search(one, other)[1]


def first_word(one, other):
    """Return the first word whose forms by two wide machines differ, or None if there is none."""
    check_both(one, other)
    return first_apart(one, other)


def answer(one, other):
    """Return an answer for two wide machines, with the least table or the first word."""
    check_both(one, other)
    table, word = _search(one, other)
    return (ALIKE, table) if word is None else (APART, word)


def _are_apart(one, other, word):
    """Return True if a string is a word of any length whose forms differ, otherwise False."""
    if word.strip(LETTERS[:one[0]]) != "":
        return False
    return one[1] + form_from(one[2], 0, word) != other[1] + form_from(other[2], 0, word)


def is_answer(one, other, given):
    """Return True if a tuple is an answer for two wide machines, otherwise False."""
    check_both(one, other)
    if given[0] == ALIKE:
        return is_closed(one, other, given[1])
    return _are_apart(one, other, given[1])


def lists_alike(k, one, other):
    """Return the answer for the machines of two lists of rules."""
    machine = list_machine(k, one)
    return answer(machine, list_machine(k, other))
