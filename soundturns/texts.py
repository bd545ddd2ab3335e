"""The texts of rules and of lists, written and read."""

from soundturns.errors import Malformed
from soundturns.rules import EDGE, MOST_PLACES, MOST_RULES, check_rule, check_rules, is_new, is_set
from soundturns.words import letters_of

ARROW = ">"
EMPTY = "-"
GAP = "_"
NO_RULES = "none"
SEMICOLON = ";"
SLASH = "/"


def text_of_rule(k, rule):
    """Return the text of a rule."""
    check_rule(k, rule)
    letter, new, left, right = rule
    return " ".join([letter, ARROW, new or EMPTY, SLASH, *left, GAP, *right])


def text_of_rules(k, rules):
    """Return the text of a list of rules."""
    check_rules(k, rules)
    return " ; ".join([text_of_rule(k, rule) for rule in rules]) or NO_RULES


def _word_at(words, at):
    """Return the word with a number, or the empty one, which is never due, behind the last one."""
    return words[at] if at < len(words) else ""


def _check_due(is_due, at):
    """Return None, or raise Malformed with the number of a word that is not due."""
    if not is_due:
        raise Malformed(at)


def _read_new(letters, words, at):
    """Return the new word that a word of a text tells."""
    word = _word_at(words, at)
    _check_due(word == EMPTY or (word != "" and is_new(letters, word)), at)
    return "" if word == EMPTY else word


def _read_left(letters, words, at):
    """Return the left context that begins at a word, and the number of the word behind it."""
    places = []
    while _word_at(words, at) != GAP:
        place = _word_at(words, at)
        is_edge = place == EDGE and not places
        _check_due(len(places) < MOST_PLACES and (is_edge or is_set(letters, place)), at)
        places.append(place)
        at += 1
    return tuple(places), at


def _read_right(letters, words, at):
    """Return the right context that begins at a word, and the number of the word behind it."""
    places = []
    # Where the context ends is not marked: the caller asks whether the word behind it is due.
    while len(places) < MOST_PLACES and EDGE not in places:
        place = _word_at(words, at)
        if place != EDGE and not is_set(letters, place):
            break
        places.append(place)
        at += 1
    return tuple(places), at


def _read_rule_at(letters, words, at):
    """Return the rule that begins at a word, and the number of the word behind it."""
    letter = _word_at(words, at)
    _check_due(len(letter) == 1 and letter in letters, at)
    _check_due(_word_at(words, at + 1) == ARROW, at + 1)
    new = _read_new(letters, words, at + 2)
    _check_due(_word_at(words, at + 3) == SLASH, at + 3)
    left, at = _read_left(letters, words, at + 4)
    right, at = _read_right(letters, words, at + 1)
    return (letter, new, left, right), at


def read_rule(k, text):
    """Return the rule with a text."""
    letters = letters_of(k)
    words = text.split(" ")
    rule, at = _read_rule_at(letters, words, 0)
    _check_due(at == len(words), at)
    return rule


def read_rules(k, text):
    """Return the list of rules with a text."""
    letters = letters_of(k)
    if text == NO_RULES:
        return ()
    words = text.split(" ")
    rule, at = _read_rule_at(letters, words, 0)
    rules = [rule]
    while at < len(words):
        _check_due(words[at] == SEMICOLON and len(rules) < MOST_RULES, at)
        rule, at = _read_rule_at(letters, words, at + 1)
        rules.append(rule)
    return tuple(rules)
