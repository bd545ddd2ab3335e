"""Whether different words have the same form: two copies of a machine that are compared."""

from soundturns.errors import BadNumber, TooLarge
from soundturns.machines import check_wide, states_after
from soundturns.ways import first_words
from soundturns.words import LETTERS, in_order, left_over

ENDED = -1
DONE = (-1, -1, ("", ""))
MOST_PLACES = 4000


def _moves(machine, state):
    """Return the moves of a state, the end first: the letter that is read, what is written, the state then."""
    if state == ENDED:
        return []
    last, entries = machine[2][state]
    return [("", last, ENDED)] + [(letter, out, after) for letter, (out, after) in zip(LETTERS, entries)]


def _begun(machine):
    """Return the beginnings in order; each has its state and the letters that both copies read there."""
    found = {}
    for state in first_words(states_after(machine[2])):
        moves = _moves(machine, state)
        for at, (letter, out, after) in enumerate(moves):
            for letter2, out2, after2 in moves[at + 1:]:
                left = left_over(out, out2)
                if left is not None:
                    found.setdefault((after, after2, left), (state, letter, letter2))
    return found


def starts(machine):
    """Return the list of the beginnings of a wide machine, without duplicates."""
    check_wide(machine)
    return list(_begun(machine))


def _is_place(machine, place):
    """Return True if the tuple is a place of a machine, otherwise False."""
    k, _, rows = machine
    state, state2, (left, left2) = place
    has_states = ENDED <= state < len(rows) and ENDED <= state2 < len(rows)
    return has_states and "" in (left, left2) and (left + left2).strip(LETTERS[:k]) == ""


def _first_goes_on(place):
    """Return True if the first copy has to go on from a place, False if the second one has to."""
    state, _, (left, left2) = place
    return left2 != "" or (left == "" and state != ENDED)


def _ways_on(machine, place):
    """Return the places that follow from a place, in order, each with the letters that both copies read."""
    state, state2, (left, left2) = place
    found = []
    if _first_goes_on(place):
        for letter, out, after in _moves(machine, state):
            found.append(((after, state2, left_over(out, left2)), letter, ""))
    else:
        for letter, out, after in _moves(machine, state2):
            found.append(((state, after, left_over(left, out)), "", letter))
    # What does not fit leaves nothing over.
    return [way for way in found if way[0][2] is not None]


def following(machine, place):
    """Return the list of the places that follow from a place of a wide machine."""
    check_wide(machine)
    if not _is_place(machine, place):
        raise BadNumber("a tuple is no place of the machine")
    return [after for after, _, _ in _ways_on(machine, place)]


def _meet(met, place, read):
    """Put a place among those that are met, with what was read, or raise TooLarge."""
    met[place] = read
    if len(met) > MOST_PLACES:
        raise TooLarge("more than 4000 places are met")


def _met(machine):
    """Return the places in order, up to the first one that is done.

    Each has the state of its beginning, and the words that both copies have read from there on.
    """
    met = {}
    begun = _begun(machine)
    for place, read in begun.items():
        _meet(met, place, read)
    todo = list(begun)
    at = 0
    while at < len(todo):
        state, read, read2 = met[todo[at]]
        ways = _ways_on(machine, todo[at])
        for after, letter, letter2 in ways:
            if after not in met:
                _meet(met, after, (state, read + letter, read2 + letter2))
                if after == DONE:
                    return met
                todo.append(after)
        at += 1
    return met


def closed_places(machine):
    """Return the least closed list of places of a wide machine, or None if it is not one to one."""
    check_wide(machine)
    met = _met(machine)
    return None if DONE in met else list(met)


def is_closed_list(machine, places):
    """Return True if a list is a closed list of places of a wide machine, otherwise False."""
    check_wide(machine)
    listed = {place: True for place in places}
    if len(listed) < len(places) or DONE in listed:
        return False
    for place in _begun(machine):
        if place not in listed:
            return False
    for place in places:
        if not _is_place(machine, place):
            return False
        for after, _, _ in _ways_on(machine, place):
            if after not in listed:
                return False
    return True


def two_words(machine):
    """Return a pair of two different words with the same form, the earlier one first, or None."""
    check_wide(machine)
    met = _met(machine)
    if DONE not in met:
        return None
    state, read, read2 = met[DONE]
    before = first_words(states_after(machine[2]))[state]
    one, other = in_order([before + read, before + read2])
    return one, other


def is_one_to_one(machine):
    """Return True if no two different words have the same form by a wide machine, otherwise False."""
    return closed_places(machine) is not None
