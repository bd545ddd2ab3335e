"""The machines of rules and of lists of rules, and machines behind one another."""

from soundturns.least import least_machine
from soundturns.machines import MOST_WIDE_STATES, bounded, check_both, form_from, read_on, still
from soundturns.rules import check_rule, check_rules, parts_of, stands_at
from soundturns.ways import explored
from soundturns.words import letters_of, words_of_length


def _due(rule, word):
    """Return what becomes of the letter of a word whose change is told by the last letter, if there is one."""
    at = len(word) - 1 - len(rule[3])
    if at < 0:
        return ""
    return rule[1] if stands_at(rule, word, at) else word[at]


def _rule_row(rule, letters, numbers, word):
    """Return the row of the state of a word; `numbers` are those of all states by their words."""
    _, _, left, right = rule
    kept = len(left) + len(right)
    last = "".join(parts_of(rule, word)[max(0, len(word) - len(right)):])
    entries = []
    for letter in letters:
        longer = word + letter
        entries.append((_due(rule, longer), numbers[longer[max(0, len(longer) - kept):]]))
    return last, tuple(entries)


def rule_machine(k, rule):
    """Return the wide machine of a rule, whose states are the words of the letters that it has to know."""
    check_rule(k, rule)
    _, _, left, right = rule
    words = [word for length in range(len(left) + len(right) + 1) for word in words_of_length(k, length)]
    numbers = {word: number for number, word in enumerate(words)}
    letters = letters_of(k)
    return k, "", tuple([_rule_row(rule, letters, numbers, word) for word in words])


def _pairs_after(rows, others, pair):
    """Return the pairs of states behind a pair, one for each letter."""
    state, behind_it = pair
    return [(after, read_on(others, behind_it, out)[1]) for out, after in rows[state][1]]


def _row_behind(rows, others, pair, afters):
    """Return the row of a pair of states; `afters` are the numbers of the pairs behind it."""
    state, behind_it = pair
    last, entries = rows[state]
    outs = [bounded(read_on(others, behind_it, out)[0]) for out, _ in entries]
    return bounded(form_from(others, behind_it, last)), tuple(list(zip(outs, afters)))


def machine_behind(one, other):
    """Return the machine `other` behind `one`; only its size is checked."""
    k, first, rows = one
    _, first_behind, others = other
    told, start = read_on(others, 0, first)
    pairs, nexts = explored((0, start), lambda pair: _pairs_after(rows, others, pair), MOST_WIDE_STATES)
    made = [_row_behind(rows, others, pair, afters) for pair, afters in zip(pairs, nexts)]
    return k, bounded(first_behind + told), tuple(made)


def behind(one, other):
    """Return the wide machine `other` behind `one`."""
    check_both(one, other)
    return machine_behind(one, other)


class Maker:
    """Makes the least machines of lists of rules of k letters; nothing is checked but their sizes.

    Lists that are asked for one after another often begin alike, so what is made is kept.
    """

    def __init__(self, k):
        self.k = k
        self.parts = {}
        self.found = {(): still(k)}

    def part(self, rule):
        """Return the least machine of a rule."""
        if rule not in self.parts:
            self.parts[rule] = least_machine(rule_machine(self.k, rule))
        return self.parts[rule]

    def made(self, rules):
        """Return the least machine of a list of rules."""
        if rules not in self.found:
            self.found[rules] = least_machine(machine_behind(self.made(rules[:-1]), self.part(rules[-1])))
        return self.found[rules]


def list_machine(k, rules):
    """Return the least machine of a list of rules."""
    check_rules(k, rules)
    return Maker(k).made(rules)
