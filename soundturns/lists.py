"""Lists of rules and the forms that they make."""

from soundturns.errors import BadNumber, TooLarge
from soundturns.rules import check_names, check_rules, indexes_of, parts_of, renamed, turned
from soundturns.words import check_word

LONGEST_MADE = 2000
MOST_USES = 100


def check_list(k, rules, word):
    """Return None, or raise BadNumber for k, NotRule for a list, NotWord for a word."""
    check_rules(k, rules)
    check_word(k, word)


def check_made(word):
    """Return None, or raise TooLarge for a word that a list has made."""
    if len(word) > LONGEST_MADE:
        raise TooLarge("a word that is made has more than 2000 letters")


def _steps(rules, word):
    """Return the steps of a word of any length; only their lengths are checked."""
    steps = [word]
    for rule in rules:
        word = "".join(parts_of(rule, word))
        check_made(word)
        steps.append(word)
    return steps


def steps_of(k, rules, word):
    """Return the list of the steps of a word: itself, and what it is behind each rule."""
    check_list(k, rules, word)
    return _steps(rules, word)


def form_of(k, rules, word):
    """Return the form of a word."""
    check_list(k, rules, word)
    return _steps(rules, word)[-1]


def acting(k, rules, word):
    """Return the list of the indexes of the rules that act on a word, ascending."""
    check_list(k, rules, word)
    steps = _steps(rules, word)
    return [at for at, rule in enumerate(rules) if indexes_of(rule, steps[at])]


def is_kept(k, rules, word):
    """Return True if a word is its own form, otherwise False."""
    return form_of(k, rules, word) == word


def turned_rules(k, rules):
    """Return the list turned about."""
    check_rules(k, rules)
    return tuple([turned(k, rule) for rule in rules])


def renamed_rules(k, rules, names):
    """Return the list whose letters are renamed by an arrangement."""
    check_rules(k, rules)
    check_names(k, names)
    return tuple([renamed(k, rule, names) for rule in rules])


def settled(k, rules, word, *, most=20):
    """Return how often the list is used until a word is settled, and the settled word, or None."""
    check_list(k, rules, word)
    if most < 0 or most > MOST_USES:
        raise BadNumber("a list is not used from 0 to 100 times")
    for times in range(most + 1):
        after = _steps(rules, word)[-1]
        if after == word:
            return times, word
        word = after
    return None
