"""Papers of lists, and answers that can be checked apart from the program."""

from soundturns.equal import ALIKE, APART, first_apart, least_table
from soundturns.machines import still, unchanging
from soundturns.making import Maker, machine_behind, rule_machine
from soundturns.rules import check_rules


def _part(maker, before, rules):
    """Return the tuple of a paper for the last rule of a list; `before` is the machine of the rules before it."""
    rule = rules[-1]
    one = maker.part(rule)
    made = maker.made(rules)
    first = least_table(rule_machine(maker.k, rule), one)
    return one, first, made, least_table(machine_behind(before, one), made)


def _paper(maker, rules):
    """Return a paper of a list of rules; only sizes are checked."""
    paper = []
    before = still(maker.k)
    for many in range(1, len(rules) + 1):
        paper.append(_part(maker, before, rules[:many]))
        before = paper[-1][2]
    return paper


def paper_of(k, rules):
    """Return a paper of a list of rules, a list of tuples."""
    check_rules(k, rules)
    return _paper(Maker(k), rules)


def last_machine(k, paper):
    """Return the machine of a paper of a list of k letters; nothing is checked."""
    return paper[-1][2] if paper else unchanging(k)


def decide(k, one, other):
    """Return an answer for two lists of rules; if they are not alike, with the first word whose forms differ."""
    check_rules(k, one)
    check_rules(k, other)
    maker = Maker(k)
    machine = maker.made(one)
    word = first_apart(machine, maker.made(other))
    if word is not None:
        return APART, word
    return ALIKE, _paper(maker, one), _paper(maker, other), least_table(machine, maker.made(other))


def shows(answer):
    """Return what an answer shows, `"alike"` or `"apart"`."""
    return answer[0]
