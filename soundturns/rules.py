"""Rules, what they change, and rules turned about and renamed."""

from soundturns.errors import NotRule, NotWord
from soundturns.words import check_number, check_word, letters_of

EDGE = "#"
MOST_NEW = 3
MOST_PLACES = 2
MOST_RULES = 8


def is_set(letters, place):
    """Return True if a place consists of some of the letters, ascending, otherwise False."""
    return place != "" and place == "".join([letter for letter in letters if letter in place])


def _is_context(letters, places, edge):
    """Return True if places are a context with `#` at the index `edge` alone, if at all."""
    if len(places) > MOST_PLACES:
        return False
    for at, place in enumerate(places):
        if not is_set(letters, place) and not (at == edge and place == EDGE):
            return False
    return True


def is_new(letters, new):
    """Return True if a string may stand in the place of a letter, otherwise False."""
    return len(new) <= MOST_NEW and new.strip(letters) == ""


def is_rule(k, rule):
    """Return True if a tuple is a rule, otherwise False."""
    letters = letters_of(k)
    letter, new, left, right = rule
    if len(letter) != 1 or letter not in letters or not is_new(letters, new):
        return False
    return _is_context(letters, left, 0) and _is_context(letters, right, len(right) - 1)


def is_rules(k, rules):
    """Return True if a tuple is a list of rules, otherwise False."""
    check_number(k)
    return len(rules) <= MOST_RULES and all([is_rule(k, rule) for rule in rules])


def check_rule(k, rule):
    """Return None, or raise NotRule if a tuple is no rule."""
    if not is_rule(k, rule):
        raise NotRule("a tuple is no rule")


def check_rules(k, rules):
    """Return None, or raise NotRule if a tuple is no list of rules."""
    if not is_rules(k, rules):
        raise NotRule("a tuple is no list of at most eight rules")


def check_names(k, names):
    """Return None, or raise NotWord if a string is no arrangement of the letters."""
    if "".join(sorted(names)) != letters_of(k):
        raise NotWord("a string is no arrangement of the letters")


def _fits(place, word, at):
    """Return True if a place fits at an index of a word, otherwise False."""
    if at < 0 or at >= len(word):
        return place == EDGE
    return word[at] in place


def _all_fit(places, word, begin):
    """Return True if places fit one after the other from an index on, otherwise False."""
    for at, place in enumerate(places):
        if not _fits(place, word, begin + at):
            return False
    return True


def stands_at(rule, word, at):
    """Return True if a rule stands at an index of a word of any length; nothing is checked."""
    letter, _, left, right = rule
    return word[at] == letter and _all_fit(left, word, at - len(left)) and _all_fit(right, word, at + 1)


def indexes_of(rule, word):
    """Return the indexes at which a rule stands in a word of any length; nothing is checked."""
    return [at for at in range(len(word)) if stands_at(rule, word, at)]


def parts_of(rule, word):
    """Return what a rule makes of each letter of a word of any length; nothing is checked."""
    parts = list(word)
    for at in indexes_of(rule, word):
        parts[at] = rule[1]
    return parts


def stands(k, rule, word):
    """Return the list of the indexes of a word at which a rule stands, ascending."""
    check_rule(k, rule)
    check_word(k, word)
    return indexes_of(rule, word)


def changed(k, rule, word):
    """Return the word that a rule makes of a word."""
    check_rule(k, rule)
    check_word(k, word)
    return "".join(parts_of(rule, word))


def turned(k, rule):
    """Return the rule turned about."""
    check_rule(k, rule)
    letter, new, left, right = rule
    return letter, new[::-1], right[::-1], left[::-1]


def _renamed_letters(letters, names, word):
    """Return a word whose letters are renamed; nothing is checked."""
    return "".join([names[letters.index(letter)] for letter in word])


def _renamed_places(letters, names, places):
    """Return a context whose letters are renamed; nothing is checked."""
    return tuple([place if place == EDGE else "".join(sorted(_renamed_letters(letters, names, place)))
                  for place in places])


def renamed_word(k, word, names):
    """Return the word whose letters are renamed by an arrangement."""
    check_word(k, word)
    check_names(k, names)
    return _renamed_letters(letters_of(k), names, word)


def renamed(k, rule, names):
    """Return the rule whose letters are renamed by an arrangement."""
    check_rule(k, rule)
    check_names(k, names)
    letters = letters_of(k)
    letter, new, left, right = rule
    return (_renamed_letters(letters, names, letter), _renamed_letters(letters, names, new),
            _renamed_places(letters, names, left), _renamed_places(letters, names, right))
