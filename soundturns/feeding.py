"""Rules that feed or bleed other rules, and rules of lists that act on no word."""

from soundturns.errors import BadNumber, TooLarge
from soundturns.machines import still
from soundturns.making import Maker
from soundturns.rules import check_rule, check_rules, indexes_of, stands_at
from soundturns.words import LETTERS, check_word

MOST_PLACES = 20000


class Watch:
    """Tells whether a rule stands somewhere in a word that is read letter by letter.

    What was read is told by its last letters, as many as the rule has places: they are the states of the machine
    of the rule. Where the rule stands already, however the word goes on, it is told by None.
    """

    def __init__(self, rule):
        self.rule = rule
        self.waited = len(rule[3])
        self.kept = len(rule[2]) + self.waited
        self.known = {}

    def after(self, tail, letter):
        """Return what tells a word with one letter more."""
        longer = tail + letter
        at = len(longer) - 1 - self.waited
        if at >= 0 and stands_at(self.rule, longer, at):
            return None
        return longer[max(0, len(longer) - self.kept):]

    def read(self, tail, word):
        """Return what tells a word that is read on."""
        for letter in word:
            if tail is None:
                return None
            if (tail, letter) not in self.known:
                self.known[tail, letter] = self.after(tail, letter)
            tail = self.known[tail, letter]
        return tail

    def is_met(self, tail, word):
        """Return True if the rule stands somewhere in a word that is read on and ends, otherwise False."""
        tail = self.read(tail, word)
        if tail is None:
            return True
        due = range(max(0, len(tail) - self.waited), len(tail))
        return any([stands_at(self.rule, tail, at) for at in due])


def _places_after(watch, one, other, place):
    """Return the places behind a place, one for each letter."""
    state, tail, state2, tail2 = place
    found = []
    for (out, after), (out2, after2) in zip(one[2][state][1], other[2][state2][1]):
        found.append((after, watch.read(tail, out), after2, watch.read(tail2, out2)))
    return found


def _shows(watch, one, other, place):
    """Return True if a rule stands in the form by the first machine alone if the word ends in a place."""
    state, tail, state2, tail2 = place
    return watch.is_met(tail, one[2][state][0]) and not watch.is_met(tail2, other[2][state2][0])


def _first_met(rule, one, other):
    """Return the first word in whose form by `one` a rule stands, while it stands nowhere in that by `other`.

    A place tells of both machines the state and what `watch` tells of what they have written.
    """
    watch = Watch(rule)
    # Both machines leave the empty word as it is, and no rule stands in it.
    start = (0, "", 0, "")
    words = {start: ""}
    todo = [start]
    at = 0
    while at < len(todo):
        afters = _places_after(watch, one, other, todo[at])
        for letter, place in zip(LETTERS, afters):
            # Where the second form has the rule already, no word that goes on shows anything.
            if place not in words and place[3] is not None:
                words[place] = words[todo[at]] + letter
                if _shows(watch, one, other, place):
                    return words[place]
                todo.append(place)
                if len(todo) > MOST_PLACES:
                    raise TooLarge("more than 20000 places have to be looked at")
        at += 1
    return None


def feeding(k, one, other):
    """Return the first word that shows that the first rule feeds the second one, or None."""
    check_rule(k, one)
    check_rule(k, other)
    return _first_met(other, Maker(k).part(one), still(k))


def bleeding(k, one, other):
    """Return the first word that shows that the first rule bleeds the second one, or None."""
    check_rule(k, one)
    check_rule(k, other)
    return _first_met(other, still(k), Maker(k).part(one))


def is_met(k, rule, word):
    """Return True if a rule stands somewhere in a word, otherwise False."""
    check_rule(k, rule)
    check_word(k, word)
    return indexes_of(rule, word) != []


def _first_acting(maker, rules, index):
    """Return the first word on which the rule with an index acts, or None."""
    # In the empty word no rule stands.
    emptied = (maker.k, "", (("", (("", 0),) * maker.k),))
    return _first_met(rules[index], maker.made(rules[:index]), emptied)


def first_acting(k, rules, index):
    """Return the first word on which the rule of a list with an index acts, or None."""
    check_rules(k, rules)
    if index < 0 or index >= len(rules):
        raise BadNumber("there is no rule with this index")
    return _first_acting(Maker(k), rules, index)


def idle(k, rules):
    """Return the list of the indexes of the rules of a list that act on no word, ascending."""
    check_rules(k, rules)
    maker = Maker(k)
    return [index for index in range(len(rules)) if _first_acting(maker, rules, index) is None]
