"""Orders of rules: lists that are alike, rules that may be left out, and lists that are used again."""

from itertools import permutations

from soundturns.equal import first_apart
from soundturns.errors import BadNumber
from soundturns.least import least_machine
from soundturns.machines import still
from soundturns.making import Maker, list_machine, machine_behind
from soundturns.rules import check_rule, check_rules

MOST_ORDERED = 4
MOST_TIMES = 6


def _parting(maker, one, other):
    """Return the first word whose forms by two lists differ, or None; only sizes are checked."""
    machine = maker.made(one)
    return first_apart(machine, maker.made(other))


def are_alike(k, one, other):
    """Return True if two lists of rules are alike, otherwise False."""
    check_rules(k, one)
    check_rules(k, other)
    return _parting(Maker(k), one, other) is None


def clash(k, one, other):
    """Return the first word whose forms by two rules in both orders differ, or None."""
    check_rule(k, one)
    check_rule(k, other)
    return _parting(Maker(k), (one, other), (other, one))


def change_places(k, one, other):
    """Return True if two rules change places, otherwise False."""
    return clash(k, one, other) is None


def _without(rules, index):
    """Return a list without the rule with an index."""
    return rules[:index] + rules[index + 1:]


def _is_needless(maker, rules, index):
    """Return True if the rule of a list with an index is needless, otherwise False."""
    return _parting(maker, rules, _without(rules, index)) is None


def needless(k, rules):
    """Return the list of the indexes of the needless rules of a list, ascending."""
    check_rules(k, rules)
    maker = Maker(k)
    return [index for index in range(len(rules)) if _is_needless(maker, rules, index)]


def thinned(k, rules):
    """Return the list without needless rules that is found by leaving out the first one again and again."""
    check_rules(k, rules)
    maker = Maker(k)
    index = 0
    while index < len(rules):
        if _is_needless(maker, rules, index):
            rules = _without(rules, index)
            # A rule that was needed by the one that is left out may be needless now.
            index = 0
        else:
            index += 1
    return rules


def _class_of(classes, machine):
    """Return the orders of the first class whose machine changes all words as a machine does, or None."""
    for first, found in classes:
        if first_apart(first, machine) is None:
            return found
    return None


def orders(k, rules):
    """Return the list of the classes of the orders of a list, each the list of its orders."""
    check_rules(k, rules)
    if len(rules) > MOST_ORDERED:
        raise BadNumber("the list has more than four rules")
    maker = Maker(k)
    classes = []
    for order in permutations(range(len(rules))):
        machine = maker.made(tuple([rules[index] for index in order]))
        found = _class_of(classes, machine)
        if found is None:
            classes.append((machine, [order]))
        else:
            found.append(order)
    return [found for _, found in classes]


def _again(machine, made):
    """Return the least machine of a list that is used once more, behind a machine of it that is made."""
    return least_machine(machine_behind(made, machine))


def unsteady(k, rules):
    """Return the first word for which the form of its form is another one than its form, or None."""
    machine = list_machine(k, rules)
    return first_apart(machine, _again(machine, machine))


def is_steady(k, rules):
    """Return True if the form of each form by a list is this form itself, otherwise False."""
    return unsteady(k, rules) is None


def _same_before(made, machine):
    """Return the number of the first of some machines that changes all words as a machine does, or None."""
    for times, earlier in enumerate(made):
        if first_apart(earlier, machine) is None:
            return times
    return None


def same_times(k, rules, most):
    """Return how often a list has to be used twice, i < j, to make the same forms, with the least j, or None."""
    check_rules(k, rules)
    if most < 1 or most > MOST_TIMES:
        raise BadNumber("a list is not used from 1 to 6 times")
    machine = list_machine(k, rules)
    made = [still(k)]
    for times in range(1, most + 1):
        after = _again(machine, made[-1])
        earlier = _same_before(made, after)
        if earlier is not None:
            return earlier, times
        made.append(after)
    return None
