"""Languages of the words that have forms in a language, and languages of forms."""

from soundturns.languages import (all_words, check_language, check_letters, least_explored, others, state_from,
                                  stray)
from soundturns.machines import check_wide
from soundturns.sources import language_to
from soundturns.ways import first_taken
from soundturns.words import check_word
from soundturns.writing import Writing


def _check(machine, language):
    """Return None, or raise NotMachine, NotLanguage or BadNumber."""
    check_wide(machine)
    check_language(language)
    check_letters(machine[0], language)


def _pairs_after(machine, rows, pair):
    """Return the pairs of states behind a pair, one for each letter that the machine reads."""
    state, within = pair
    return [(after, state_from(rows, within, out)) for out, after in machine[2][state][1]]


def _accepts(machine, rows, pair):
    """Return True if a form that ends in a pair is taken, otherwise False."""
    state, within = pair
    return rows[state_from(rows, within, machine[2][state][0])][0]


def sources(machine, language):
    """Return the least language of the words whose forms a language takes."""
    _check(machine, language)
    k, first, _ = machine
    rows = language[1]
    return least_explored(k, (0, state_from(rows, 0, first)), lambda pair: _pairs_after(machine, rows, pair),
                          lambda place: _accepts(machine, rows, place))


def forms(machine, language):
    """Return the least language of the forms of the words that a language takes."""
    _check(machine, language)
    writing = Writing(machine, language)
    return least_explored(machine[0], writing.beginning(), lambda places: writing.behind(places),
                          lambda numbers: writing.may_end(numbers))


def all_forms(machine):
    """Return the least language of the forms of all words."""
    check_wide(machine)
    return forms(machine, all_words(machine[0]))


def is_form(machine, word):
    """Return True if a word is the form of some word, otherwise False."""
    check_wide(machine)
    check_word(machine[0], word)
    # As many places as there can be at all, and the dead one, so it is never too large.
    most = len(machine[2]) * (len(word) + 1) + 1
    return first_taken(language_to(machine, word, most)) is not None


def missing(machine):
    """Return the first word that is no form, or None if all words are forms."""
    return first_taken(others(all_forms(machine)))


def astray(machine, one, other):
    """Return the first word of the first language whose form the second one does not take, or None."""
    check_wide(machine)
    check_language(one)
    check_language(other)
    check_letters(machine[0], one)
    return stray(one, sources(machine, other))


def leads_into(machine, one, other):
    """Return True if the second language takes the forms of all words of the first one, otherwise False."""
    return astray(machine, one, other) is None
