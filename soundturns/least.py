"""Early machines and least machines."""

from heapq import heapify, heappop, heappush

from soundturns.machines import MOST_WIDE_STATES, bounded, check_both, check_wide, states_after
from soundturns.ways import alike_classes, explored, first_words
from soundturns.words import common


def _own_lengths(rows):
    """Return how much of each `last` its entries allow if their next states have `last` as beginnings."""
    lengths = []
    for last, entries in rows:
        begin = last
        for out, after in entries:
            begin = common(begin, out + rows[after][0])
        lengths.append(len(begin))
    return lengths


def _entries_before(rows):
    """Return the lists of the pairs of a state before each state and the number of letters written on the way."""
    found = [[] for _ in rows]
    for state, row in enumerate(rows):
        for out, after in row[1]:
            found[after].append((state, len(out)))
    return found


def _beginnings(rows):
    """Return the list of the common beginnings of the states of a machine.

    All of them are beginnings of `last`, so behind the first look only their lengths matter: that of a
    state is at most that of the state behind an entry and of the word written there. The shortest are
    known first.
    """
    lengths = _own_lengths(rows)
    earlier = _entries_before(rows)
    queue = [(length, state) for state, length in enumerate(lengths)]
    heapify(queue)
    while queue:
        length, after = heappop(queue)
        if length == lengths[after]:
            for state, many in earlier[after]:
                if length + many < lengths[state]:
                    lengths[state] = length + many
                    heappush(queue, (length + many, state))
    return [row[0][:length] for row, length in zip(rows, lengths)]


def beginnings(machine):
    """Return the list of the common beginnings of the states of a wide machine."""
    check_wide(machine)
    return _beginnings(machine[2])


def is_early(machine):
    """Return True if the common beginnings of all states are empty, otherwise False."""
    return all([begin == "" for begin in beginnings(machine)])


def _early_row(row, begin, begins):
    """Return a row of the early machine; `begins` are the common beginnings of all states."""
    last, entries = row
    skip = len(begin)
    return last[skip:], tuple([(bounded((out + begins[after])[skip:]), after) for out, after in entries])


def early(machine):
    """Return the early machine of a wide machine."""
    check_wide(machine)
    k, first, rows = machine
    begins = _beginnings(rows)
    early_rows = [_early_row(row, begin, begins) for row, begin in zip(rows, begins)]
    return k, bounded(first + begins[0]), tuple(early_rows)


def reached(machine):
    """Return the list of the states that words reach, in the order of the first words."""
    check_wide(machine)
    return list(first_words(states_after(machine[2])))


def least_machine(machine):
    """Return the least machine of a wide machine; only the lengths of its words are checked."""
    k, first, rows = machine
    begins = _beginnings(rows)
    afters = states_after(rows)
    states, nexts = explored(0, lambda state: afters[state], MOST_WIDE_STATES)
    # Only the states that are reached are needed, so only their words may be too long.
    early_rows = [_early_row(rows[state], begins[state], begins) for state in states]
    keys = [(last, tuple([out for out, _ in entries])) for last, entries in early_rows]
    firsts, classes = alike_classes(keys, nexts)
    made = []
    for state in firsts:
        last, outs = keys[state]
        made.append((last, tuple([(out, classes[after]) for out, after in zip(outs, nexts[state])])))
    return k, bounded(first + begins[0]), tuple(made)


def least(machine):
    """Return the least machine of a wide machine."""
    check_wide(machine)
    return least_machine(machine)


def same_forms(one, other):
    """Return True if two wide machines change all words alike, otherwise False."""
    check_both(one, other)
    return least_machine(one) == least_machine(other)
