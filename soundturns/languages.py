"""Languages: which words they take, and languages that are made of others."""

from soundturns.errors import BadNumber, NotLanguage, TooLarge
from soundturns.machines import MOST_STATES, MOST_WIDE_STATES
from soundturns.ways import (accepting_states, alike_classes, explored, first_taken, language_nexts, mask_of,
                             states_before, states_in, taken_counts, taken_words, takes_endlessly)
from soundturns.words import LETTERS, check_number, check_word, is_number_of_letters, letters_of

MOST_BEGINNINGS = 1999
MOST_COUNTED = 200
MOST_LISTED = 2000


def _is_row(k, row, states):
    """Return True if a row of a language with so many states is one, otherwise False."""
    accepting, entries = row
    if accepting is not True and accepting is not False:
        return False
    return len(entries) == k and all([0 <= after < states for after in entries])


def _has_form(language, most):
    """Return True if a tuple is a language with at most so many states, otherwise False."""
    k, rows = language
    states = len(rows)
    if not is_number_of_letters(k) or states < 1 or states > most:
        return False
    return all([_is_row(k, row, states) for row in rows])


def is_language(language):
    """Return True if a tuple is a language, otherwise False."""
    return _has_form(language, MOST_STATES)


def is_wide_language(language):
    """Return True if a tuple is a wide language, otherwise False."""
    return _has_form(language, MOST_WIDE_STATES)


def check_language(language):
    """Return None, or raise NotLanguage if a tuple is no wide language."""
    if not is_wide_language(language):
        raise NotLanguage("a tuple is no wide language")


def check_letters(k, language):
    """Return None, or raise BadNumber if a language has not so many letters."""
    if language[0] != k:
        raise BadNumber("the numbers of letters differ")


def _check_both(one, other):
    """Return None, or raise NotLanguage for the first that is no wide language, then BadNumber."""
    check_language(one)
    check_language(other)
    check_letters(one[0], other)


def state_from(rows, state, word):
    """Return the state behind a word that is read from a state on; nothing is checked."""
    for letter in word:
        state = rows[state][1][LETTERS.index(letter)]
    return state


def takes(language, word):
    """Return True if a wide language takes a word, otherwise False."""
    check_language(language)
    check_word(language[0], word)
    return language[1][state_from(language[1], 0, word)][0]


def _least(language):
    """Return the least language of a wide language; nothing is checked."""
    k, rows = language
    states, nexts = explored(0, lambda state: rows[state][1], MOST_WIDE_STATES)
    accepting = [rows[state][0] for state in states]
    firsts, classes = alike_classes(accepting, nexts)
    return k, tuple([(accepting[state], tuple([classes[after] for after in nexts[state]])) for state in firsts])


def least_language(language):
    """Return the least language of a wide language."""
    check_language(language)
    return _least(language)


def least_explored(k, start, follow, accepts):
    """Return the least language whose states are the places that ways from `start` reach.

    `follow` returns the places behind a place, one for each letter, and `accepts` whether it is accepting.
    """
    places, nexts = explored(start, follow, MOST_WIDE_STATES)
    return _least((k, tuple([(accepts(place), row) for place, row in zip(places, nexts)])))


def _one_state(k, accepting):
    """Return the language with one state."""
    check_number(k)
    return k, ((accepting, (0,) * k),)


def all_words(k):
    """Return the language with one state that takes all words."""
    return _one_state(k, True)


def no_word(k):
    """Return the language with one state that takes no word."""
    return _one_state(k, False)


def _all_beginnings(words):
    """Return a dict of all beginnings of words, the empty one among them."""
    found = {"": True}
    for word in words:
        for length in range(1, len(word) + 1):
            found[word[:length]] = True
        if len(found) > MOST_BEGINNINGS:
            raise TooLarge("the words have more than 1999 different beginnings")
    return found


def _longer(letters, begun, word):
    """Return the words with one letter more that are among the beginnings; None stands for the others."""
    if word is None:
        return [None] * len(letters)
    return [word + letter if word + letter in begun else None for letter in letters]


def of_words(k, words):
    """Return the least language that takes the words of a list alone."""
    letters = letters_of(k)
    for word in words:
        check_word(k, word)
    begun = _all_beginnings(words)
    taken = {word: True for word in words}
    return least_explored(k, "", lambda begin: _longer(letters, begun, begin), lambda word: word in taken)


def _paired(one, other, accepts):
    """Return the least language of pairs of states; `accepts` tells of both whether the pair is accepting."""
    _check_both(one, other)
    rows = one[1]
    rows2 = other[1]
    return least_explored(one[0], (0, 0), lambda pair: list(zip(rows[pair[0]][1], rows2[pair[1]][1])),
                          lambda pair: accepts(rows[pair[0]][0], rows2[pair[1]][0]))


def both(one, other):
    """Return the least language of the words that both languages take."""
    return _paired(one, other, lambda left, right: left and right)


def either(one, other):
    """Return the least language of the words that at least one of two languages takes."""
    return _paired(one, other, lambda left, right: left or right)


def _stray(one, other):
    """Return the least language of the words that the first language takes and the second one does not."""
    return _paired(one, other, lambda left, right: left and not right)


def _parted(one, other):
    """Return the least language of the words that just one of two languages takes."""
    return _paired(one, other, lambda left, right: left != right)


def others(language):
    """Return the least language of all words that a language does not take."""
    check_language(language)
    k, rows = language
    return _least((k, tuple([(not accepting, entries) for accepting, entries in rows])))


def _begun(rows, state, afters):
    """Return a state of the first language and the states of the second one, which begins where the first may end."""
    return state, mask_of(afters + [0] if rows[state][0] else afters)


def _followed_after(rows, rows2, place):
    """Return what `_begun` returns behind a place, for each letter."""
    state, mask = place
    entries = [rows2[within][1] for within in states_in(mask)]
    return [_begun(rows, after, [row[at] for row in entries]) for at, after in enumerate(rows[state][1])]


def followed(one, other):
    """Return the least language of the words of the first language with words of the second one behind them."""
    _check_both(one, other)
    rows = one[1]
    rows2 = other[1]
    goals = mask_of(accepting_states(other))
    return least_explored(one[0], _begun(rows, 0, []), lambda place: _followed_after(rows, rows2, place),
                          lambda place: place[1] & goals != 0)


def _masks_before(nexts, at):
    """Return the masks of the states that lead to each state by the letter with a number."""
    return [mask_of(states) for states in states_before([(row[at],) for row in nexts])]


def _joined(masks, states):
    """Return the mask of all states in the masks of some states."""
    joined = 0
    for state in states:
        joined |= masks[state]
    return joined


def _turned_after(befores, mask):
    """Return the masks of the states from which each letter leads into a mask."""
    states = states_in(mask)
    return [_joined(masks, states) for masks in befores]


def turned_language(language):
    """Return the least language of the words of a language, turned about."""
    check_language(language)
    k = language[0]
    nexts = language_nexts(language)
    befores = [_masks_before(nexts, at) for at in range(k)]
    start = mask_of(accepting_states(language))
    return least_explored(k, start, lambda mask: _turned_after(befores, mask), lambda found: found & 1 == 1)


def first_word(language):
    """Return the first word that a wide language takes, or None."""
    check_language(language)
    return first_taken(language)


def listed_first(language):
    """Return the first word that a wide language takes, or None; nothing is checked."""
    return first_taken(language)


def stray(one, other):
    """Return the first word that the first language takes and the second one does not, or None."""
    return first_taken(_stray(one, other))


def parting(one, other):
    """Return the first word that just one of two languages takes, or None."""
    return first_taken(_parted(one, other))


def is_within(one, other):
    """Return True if the second language takes all words of the first one, otherwise False."""
    return stray(one, other) is None


def _check_length(length):
    """Return None, or raise BadNumber if a length is not from 0 to 200."""
    if length < 0 or length > MOST_COUNTED:
        raise BadNumber("the length is not from 0 to 200")


def counts(language, length):
    """Return the list of the numbers of words of 0 to `length` letters that a wide language takes."""
    check_language(language)
    _check_length(length)
    return taken_counts(language, length)


def is_finite(language):
    """Return True if a wide language takes finitely many words, otherwise False."""
    check_language(language)
    return not takes_endlessly(language)


def listed(language, length):
    """Return the list of all words of at most `length` letters that a wide language takes, in order."""
    check_language(language)
    _check_length(length)
    found = taken_words(language, MOST_LISTED + 1, length)
    if len(found) > MOST_LISTED:
        raise TooLarge("there are more than 2000 words")
    return found
