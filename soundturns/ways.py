"""Ways from state to state, letter by letter: what machines and languages have in common.

`nexts` is always a list with a tuple for each state: the states behind it, one for each letter.
Nothing is checked here but how much is reached.
"""

from soundturns.errors import TooLarge
from soundturns.words import LETTERS


def explored(start, follow, most):
    """Return the places that ways from `start` reach, in the order of the first words, and their nexts.

    `follow` returns the places behind a place, one for each letter.
    """
    numbers = {start: 0}
    places = [start]
    nexts = []
    while len(nexts) < len(places):
        row = []
        afters = follow(places[len(nexts)])
        for after in afters:
            if after not in numbers:
                numbers[after] = len(places)
                places.append(after)
            row.append(numbers[after])
        nexts.append(tuple(row))
        if len(places) > most:
            raise TooLarge("too many states are reached")
    return places, nexts


def first_words(nexts):
    """Return the first word that leads to each state that is reached, by states, in the order of these words."""
    words = {0: ""}
    order = [0]
    at = 0
    while at < len(order):
        state = order[at]
        for letter, after in zip(LETTERS, nexts[state]):
            if after not in words:
                words[after] = words[state] + letter
                order.append(after)
        at += 1
    return words


def states_before(nexts):
    """Return the lists of the states before each state, as often as letters lead from them to it."""
    found = [[] for _ in nexts]
    for state, row in enumerate(nexts):
        for after in row:
            found[after].append(state)
    return found


def leading_to(nexts, goals):
    """Return a dict of the states from which some word, which may be empty, leads to one of the goals."""
    earlier = states_before(nexts)
    found = {goal: True for goal in goals}
    todo = list(goals)
    while todo:
        after = todo.pop()
        for state in earlier[after]:
            if state not in found:
                found[state] = True
                todo.append(state)
    return found


def has_loop(nexts, kept):
    """Return True if a word leads from a state to itself through states of a dict alone, otherwise False."""
    earlier = states_before(nexts)
    many = {state: len([after for after in nexts[state] if after in kept]) for state in kept}
    ends = [state for state in kept if many[state] == 0]
    taken = 0
    while ends:
        after = ends.pop()
        taken += 1
        for state in earlier[after]:
            if state in kept:
                many[state] -= 1
                if many[state] == 0:
                    ends.append(state)
    return taken < len(kept)


def _unlike_parts(groups, nexts, unsure):
    """Return by groups the lists of those of their unsure states that lead to the same groups."""
    found = {}
    for state in unsure:
        row = tuple([groups[after] for after in nexts[state]])
        found.setdefault(groups[state], {}).setdefault(row, []).append(state)
    return {group: list(parts.values()) for group, parts in found.items()}


def _parts_to_move(members, parts):
    """Return the parts of a group that leave it: all but a largest one."""
    unsure = {state: True for part in parts for state in part}
    # States that are sure stay together. Where they are the larger half, they are not even looked at.
    if 2 * len(unsure) < len(members):
        return parts
    sure = [state for state in members if state not in unsure]
    return [part for part in sorted([*parts, sure], key=len)[:-1] if part]


def _alike_groups(keys, nexts):
    """Return a number for each state; it is the same for two states exactly if they are alike."""
    numbers = {}
    groups = [numbers.setdefault(key, len(numbers)) for key in keys]
    members = [{} for _ in numbers]
    for state, group in enumerate(groups):
        members[group][state] = True
    earlier = states_before(nexts)
    unsure = list(range(len(nexts)))
    while unsure:
        moved = []
        parts_of = _unlike_parts(groups, nexts, unsure)
        for group in parts_of:
            leaving = _parts_to_move(members[group], parts_of[group])
            for part in leaving:
                for state in part:
                    del members[group][state]
                    groups[state] = len(members)
                members.append({state: True for state in part})
                moved.extend(part)
        unsure = list({state: True for after in moved for state in earlier[after]})
    return groups


def alike_classes(keys, nexts):
    """Return the first state of each class of alike states, and the number of its class for each state.

    States are alike if all words lead from them to states with the same keys.
    """
    numbers = {}
    firsts = []
    found = []
    for state, group in enumerate(_alike_groups(keys, nexts)):
        if group not in numbers:
            numbers[group] = len(firsts)
            firsts.append(state)
        found.append(numbers[group])
    return firsts, found


def accepting_states(language):
    """Return the list of the accepting states of a language."""
    return [state for state, row in enumerate(language[1]) if row[0]]


def language_nexts(language):
    """Return the list of the tuples of the states behind each state of a language."""
    return [entries for _, entries in language[1]]


def first_taken(language):
    """Return the first word that a language takes, or None."""
    rows = language[1]
    words = first_words(language_nexts(language))
    for state, word in words.items():
        if rows[state][0]:
            return word
    return None


def takes_endlessly(language):
    """Return True if a language takes infinitely many words, otherwise False."""
    nexts = language_nexts(language)
    useful = leading_to(nexts, accepting_states(language))
    return has_loop(nexts, {state: True for state in first_words(nexts) if state in useful})


def taken_counts(language, length):
    """Return the list of the numbers of words of 0 to `length` letters that a language takes."""
    rows = language[1]
    ways = {0: 1}
    counts = []
    for _ in range(length + 1):
        counts.append(sum([many for state, many in ways.items() if rows[state][0]]))
        longer = {}
        for state, many in ways.items():
            for after in rows[state][1]:
                longer[after] = longer.get(after, 0) + many
        ways = longer
    return counts


def mask_of(states):
    """Return the integer whose bits tell a list of states: a set that is quickly joined with others."""
    mask = 0
    for state in states:
        mask |= 1 << state
    return mask


def states_in(mask):
    """Return the list of the states that the bits of an integer tell, ascending."""
    bits = f"{mask:b}"[::-1]
    found = []
    state = bits.find("1")
    while state >= 0:
        found.append(state)
        state = bits.find("1", state + 1)
    return found


def _words_to(language, goals, most):
    """Return the first words with one letter less than there are goals.

    `goals` tells the states from which 0, 1, .. letters lead to an accepting one.
    """
    rows = language[1]
    ways = [("", 0)] if goals[-1] & 1 else []
    for goal in goals[-2::-1]:
        longer = [(word + letter, after) for word, state in ways
                  for letter, after in zip(LETTERS, rows[state][1]) if goal >> after & 1]
        # Each of them leads to a word, so those behind the first ones are not needed.
        ways = longer[:most]
    return [word for word, _ in ways]


def taken_words(language, most, length):
    """Return the list of the first words of at most `length` letters that a language takes, in order."""
    masks = [mask_of(entries) for entries in language_nexts(language)]
    goals = [mask_of(accepting_states(language))]
    found = []
    while goals[-1] and len(goals) <= length + 1 and len(found) < most:
        found.extend(_words_to(language, goals, most - len(found)))
        goals.append(mask_of([state for state, mask in enumerate(masks) if mask & goals[-1]]))
    return found
