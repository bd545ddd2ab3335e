"""The words that a machine changes into a given word."""

from soundturns.errors import BadNumber, TooLarge
from soundturns.machines import MOST_WIDE_STATES, check_wide
from soundturns.ways import explored, first_taken, taken_counts, taken_words, takes_endlessly
from soundturns.words import check_word

LONGEST_SOURCE = 2000
MOST_ALL = 500
MOST_FIRST = 100
MOST_COUNTED = 60


def _check(machine, word):
    """Return None, or raise NotMachine or NotWord."""
    check_wide(machine)
    check_word(machine[0], word)


def _after(word, many, out, state):
    """Return the place behind `many` letters of a word and `out`, in a state; None is the dead state."""
    return (state, many + len(out)) if word.startswith(out, many) else None


def _places_after(machine, word, place):
    """Return the places behind a place, one for each letter."""
    k, _, rows = machine
    if place is None:
        return [None] * k
    state, many = place
    return [_after(word, many, out, after) for out, after in rows[state][1]]


def _accepts(machine, word, place):
    """Return True if the word is written whole where the machine ends in a place, otherwise False."""
    if place is None:
        return False
    state, many = place
    return word[many:] == machine[2][state][0]


def language_to(machine, word, most):
    """Return the language of the sources of a word, with at most so many states; nothing else is checked."""
    start = _after(word, 0, machine[1], 0)
    places, nexts = explored(start, lambda place: _places_after(machine, word, place), most)
    return machine[0], tuple([(_accepts(machine, word, place), row) for place, row in zip(places, nexts)])


def source_language(machine, word):
    """Return the language of the sources of a word."""
    _check(machine, word)
    return language_to(machine, word, MOST_WIDE_STATES)


def first_source(machine, word):
    """Return the first source of a word, or None."""
    return first_taken(source_language(machine, word))


def has_source(machine, word):
    """Return True if a word has a source, otherwise False."""
    return first_source(machine, word) is not None


def is_endless(machine, word):
    """Return True if a word has infinitely many sources, otherwise False."""
    return takes_endlessly(source_language(machine, word))


def all_sources(machine, word):
    """Return the list of all sources of a word, in order, or None if there are infinitely many."""
    language = source_language(machine, word)
    if takes_endlessly(language):
        return None
    # A finite language takes no word with as many letters as it has states.
    found = taken_words(language, MOST_ALL + 1, MOST_WIDE_STATES)
    if len(found) > MOST_ALL:
        raise TooLarge("there are more than 500 sources")
    return found


def first_sources(machine, word, most):
    """Return the list of the first `most` sources of a word, or of all if there are fewer, in order."""
    _check(machine, word)
    if most < 0 or most > MOST_FIRST:
        raise BadNumber("the number of sources is not from 0 to 100")
    language = language_to(machine, word, MOST_WIDE_STATES)
    found = taken_words(language, most, LONGEST_SOURCE)
    if len(found) < most and takes_endlessly(language):
        raise TooLarge("a source has more than 2000 letters")
    return found


def source_counts(machine, word, length):
    """Return the list of the numbers of sources of a word with 0 to `length` letters."""
    _check(machine, word)
    if length < 0 or length > MOST_COUNTED:
        raise BadNumber("the length is not from 0 to 60")
    return taken_counts(language_to(machine, word, MOST_WIDE_STATES), length)
