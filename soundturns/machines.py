"""Machines, and the forms that they make."""

from soundturns.errors import BadNumber, NotMachine, TooLarge
from soundturns.words import LETTERS, LONGEST, check_number, check_word, is_number_of_letters, is_word

MOST_STATES = 200
MOST_WIDE_STATES = 2000


def _is_row(k, row, states):
    """Return True if a row of a machine with so many states is one, otherwise False."""
    last, entries = row
    if not is_word(k, last) or len(entries) != k:
        return False
    for out, after in entries:
        if not is_word(k, out) or after < 0 or after >= states:
            return False
    return True


def _has_form(machine, most):
    """Return True if a tuple is a machine with at most so many states, otherwise False."""
    k, first, rows = machine
    if not is_number_of_letters(k) or not is_word(k, first):
        return False
    states = len(rows)
    return 1 <= states <= most and all([_is_row(k, row, states) for row in rows])


def is_machine(machine):
    """Return True if a tuple is a machine, otherwise False."""
    return _has_form(machine, MOST_STATES)


def is_wide(machine):
    """Return True if a tuple is a wide machine, otherwise False."""
    return _has_form(machine, MOST_WIDE_STATES)


def check_machine(machine):
    """Return None, or raise NotMachine if a tuple is no machine."""
    if not is_machine(machine):
        raise NotMachine("a tuple is no machine")


def check_wide(machine):
    """Return None, or raise NotMachine if a tuple is no wide machine."""
    if not is_wide(machine):
        raise NotMachine("a tuple is no wide machine")


def check_both(one, other):
    """Return None, or raise NotMachine for the first that is no wide machine, then BadNumber."""
    check_wide(one)
    check_wide(other)
    if one[0] != other[0]:
        raise BadNumber("two machines have different numbers of letters")


def bounded(word):
    """Return a word of a machine that is made, or raise TooLarge if it is too long for one."""
    if len(word) > LONGEST:
        raise TooLarge("a word of a machine has more than 60 letters")
    return word


def states_after(rows):
    """Return the tuples of the states behind each state, one for each letter."""
    return [tuple([after for _, after in entries]) for _, entries in rows]


def read_on(rows, state, word):
    """Return what is written while a word is read in a state, and the state behind it; nothing is checked."""
    outs = []
    for letter in word:
        out, state = rows[state][1][LETTERS.index(letter)]
        outs.append(out)
    return "".join(outs), state


def form_from(rows, state, word):
    """Return what is written from a state on if a word is read and ends; nothing is checked."""
    told, state = read_on(rows, state, word)
    return told + rows[state][0]


def _read(machine, word):
    """Return what a machine has written behind a word, and the state in which it is then."""
    check_wide(machine)
    k, first, rows = machine
    check_word(k, word)
    told, state = read_on(rows, 0, word)
    return first + told, state


def form(machine, word):
    """Return the form of a word by a wide machine."""
    told, state = _read(machine, word)
    return told + machine[2][state][0]


def written(machine, word):
    """Return what a wide machine has written behind a word."""
    return _read(machine, word)[0]


def state_behind(machine, word):
    """Return the state in which a wide machine is behind a word."""
    return _read(machine, word)[1]


def unchanging(k):
    """Return the machine with one state that changes no word; nothing is checked."""
    return k, "", (("", tuple([(letter, 0) for letter in LETTERS[:max(0, k)]])),)


def still(k):
    """Return the machine with one state that changes no word."""
    check_number(k)
    return unchanging(k)
