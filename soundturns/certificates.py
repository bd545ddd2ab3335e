"""The checker: papers, tables, lists of places and answers are looked at tuple by tuple.

It stands for itself. What it has to know of rules and machines it makes by the points of the document alone.
"""

from soundturns.errors import BadNumber, NotMachine, NotRule

LETTERS = "abcdef"
EDGE = "#"
ALIKE = "alike"
APART = "apart"
NONE = "none"
ENDED = -1
DONE = (-1, -1, ("", ""))
BLOCK = 32
LEAST_LETTERS = 2
LONGEST = 60
LONGEST_NEW = 3
LONGEST_SHOWN = 2000
MOST_PLACES = 2
MOST_RULES = 8
MOST_STATES = 2000


def _is_number(number, least, end):
    """Return True if a value is an integer from `least` on, below `end`, otherwise False."""
    return isinstance(number, int) and least <= number < end


def _is_of(letters, text):
    """Return True if a string of any length consists of some letters, otherwise False."""
    return text.strip(letters) == ""


def _is_set(letters, place):
    """Return True if a place is a set of letters, otherwise False."""
    return place != "" and place == "".join([letter for letter in letters if letter in place])


def _is_context(letters, places, edge):
    """Return True if places are a context in which `#` stands at the index `edge` alone, if at all."""
    if len(places) > MOST_PLACES:
        return False
    return all([_is_set(letters, place) or (at == edge and place == EDGE) for at, place in enumerate(places)])


def _is_rule(letters, rule):
    """Return True if a tuple is a rule ([20]), otherwise False."""
    letter, new, left, right = rule
    if len(letter) != 1 or letter not in letters or len(new) > LONGEST_NEW or not _is_of(letters, new):
        return False
    return _is_context(letters, left, 0) and _is_context(letters, right, len(right) - 1)


def _check_lists(k, lists):
    """Return None, or raise BadNumber for k, or NotRule for the first tuple that is no list of rules."""
    if not _is_number(k, LEAST_LETTERS, len(LETTERS) + 1):
        raise BadNumber("the number of letters is not from 2 to 6")
    letters = LETTERS[:k]
    for rules in lists:
        if len(rules) > MOST_RULES or not all([_is_rule(letters, rule) for rule in rules]):
            raise NotRule("a tuple is no list of at most eight rules")


def _fits(place, word, at):
    """Return True if a place fits at an index of a word, otherwise False."""
    if at < 0 or at >= len(word):
        return place == EDGE
    return word[at] in place


def _becomes(rule, word, at):
    """Return what a rule makes of the letter at an index of a word ([21], [22])."""
    letter, new, left, right = rule
    if word[at] != letter:
        return word[at]
    begin = at - len(left)
    if not all([_fits(place, word, begin + number) for number, place in enumerate(left)]):
        return letter
    if not all([_fits(place, word, at + 1 + number) for number, place in enumerate(right)]):
        return letter
    return new


def _changed(rule, word):
    """Return what a rule makes of a word of any length.

    It is found block by block, each with as many letters around it as the rule looks at. Words that rules make
    long consist of few different blocks.
    """
    left, right = len(rule[2]), len(rule[3])
    known = {}
    made = []
    for begin in range(0, len(word), BLOCK):
        before = min(left, begin)
        seen = word[begin - before:begin + BLOCK + right]
        if (before, seen) not in known:
            known[before, seen] = "".join([_becomes(rule, seen, before + at)
                                           for at in range(min(BLOCK, len(seen) - before))])
        made.append(known[before, seen])
    return "".join(made)


def _form(rules, word):
    """Return the form of a word of any length by a list of rules."""
    for rule in rules:
        word = _changed(rule, word)
    return word


def _is_tuple(given, many):
    """Return True if a value is a tuple with so many entries, otherwise False."""
    return isinstance(given, tuple) and len(given) == many


def _is_told(letters, text):
    """Return True if a value is a word of a machine, otherwise False."""
    return isinstance(text, str) and len(text) <= LONGEST and _is_of(letters, text)


def _is_row(letters, states, row):
    """Return True if a value is a row of a machine with so many states, otherwise False."""
    if not _is_tuple(row, 2) or not _is_told(letters, row[0]) or not _is_tuple(row[1], len(letters)):
        return False
    for entry in row[1]:
        if not _is_tuple(entry, 2) or not _is_told(letters, entry[0]) or not _is_number(entry[1], 0, states):
            return False
    return True


def _is_machine(machine):
    """Return True if a value is a wide machine ([60]), otherwise False."""
    if not _is_tuple(machine, 3):
        return False
    k, first, rows = machine
    if not _is_number(k, LEAST_LETTERS, len(LETTERS) + 1) or not isinstance(rows, tuple):
        return False
    letters = LETTERS[:k]
    if not _is_number(len(rows), 1, MOST_STATES + 1) or not _is_told(letters, first):
        return False
    return all([_is_row(letters, len(rows), row) for row in rows])


def _check_machine(machine):
    """Return None, or raise NotMachine."""
    if not _is_machine(machine):
        raise NotMachine("a tuple is no wide machine")


def _read(machine, state, word):
    """Return what a machine writes for a word from a state on, and the state behind it ([61])."""
    rows = machine[2]
    outs = []
    for letter in word:
        out, state = rows[state][1][LETTERS.index(letter)]
        outs.append(out)
    return "".join(outs), state


def _form_by(machine, word):
    """Return the form of a word of any length by a machine ([61])."""
    told, state = _read(machine, 0, word)
    return machine[1] + told + machine[2][state][0]


def _still(k):
    """Return the machine with one state that changes no word."""
    return k, "", (("", tuple([(letter, 0) for letter in LETTERS[:k]])),)


def _rule_row(rule, letters, numbers, word):
    """Return the row of a state of the machine of a rule, a word; `numbers` are those of all states ([62])."""
    _, _, left, right = rule
    kept = len(left) + len(right)
    entries = []
    for letter in letters:
        longer = word + letter
        due = len(longer) - 1 - len(right)
        out = _becomes(rule, longer, due) if due >= 0 else ""
        entries.append((out, numbers[longer[max(0, len(longer) - kept):]]))
    last = [_becomes(rule, word, at) for at in range(max(0, len(word) - len(right)), len(word))]
    return "".join(last), tuple(entries)


def _rule_machine(k, rule):
    """Return the machine of a rule ([62])."""
    letters = LETTERS[:k]
    words = [""]
    longest = [""]
    for _ in range(len(rule[2]) + len(rule[3])):
        longest = [word + letter for word in longest for letter in letters]
        words.extend(longest)
    numbers = {word: number for number, word in enumerate(words)}
    return k, "", tuple([_rule_row(rule, letters, numbers, word) for word in words])


def _behind(one, other):
    """Return the machine `other` behind `one` ([64]), with words of any length, or None if it has too many states."""
    told, start = _read(other, 0, one[1])
    numbers = {(0, start): 0}
    pairs = [(0, start)]
    rows = []
    while len(rows) < len(pairs):
        state, state2 = pairs[len(rows)]
        last, entries = one[2][state]
        row = []
        for out, after in entries:
            out2, after2 = _read(other, state2, out)
            if (after, after2) not in numbers:
                numbers[after, after2] = len(pairs)
                pairs.append((after, after2))
            row.append((out2, numbers[after, after2]))
        if len(pairs) > MOST_STATES:
            return None
        last2, after2 = _read(other, state2, last)
        rows.append((last2 + other[2][after2][0], tuple(row)))
    return one[0], other[1] + told, tuple(rows)


def _left(one, other):
    """Return what is left of two words without the shorter one at their beginning, or None if they do not fit."""
    if one.startswith(other):
        return one[len(other):], ""
    return ("", other[len(one):]) if other.startswith(one) else None


def _is_entry(entry, least, one, other):
    """Return True if a value is a tuple of a state of each of two machines and two words of which one is empty."""
    if not _is_tuple(entry, 3) or not _is_tuple(entry[2], 2) or "" not in entry[2]:
        return False
    state, state2, (left, left2) = entry
    has_words = isinstance(left, str) and isinstance(left2, str)
    return has_words and _is_number(state, least, len(one[2])) and _is_number(state2, least, len(other[2]))


def _entries_after(one, other, entry):
    """Return the tuples of a table that have to stand in it with a tuple, or None if its forms differ ([101])."""
    state, state2, (left, left2) = entry
    last, entries = one[2][state]
    last2, entries2 = other[2][state2]
    if left + last != left2 + last2:
        return None
    return [(after, after2, _left(left + out, left2 + out2))
            for (out, after), (out2, after2) in zip(entries, entries2)]


def _is_closed(one, other, table):
    """Return True if a value is a closed table of two machines with as many letters, otherwise False ([101])."""
    if not isinstance(table, list) or not all([_is_entry(entry, 0, one, other) for entry in table]):
        return False
    found = {entry: True for entry in table}
    if len(found) < len(table) or (0, 0, _left(one[1], other[1])) not in found:
        return False
    for entry in table:
        afters = _entries_after(one, other, entry)
        if afters is None or not all([after in found for after in afters]):
            return False
    return True


def _is_step(k, rule, before, step):
    """Return True if a value is the tuple of a paper for a rule; `before` is the machine before it ([260])."""
    if not _is_tuple(step, 4):
        return False
    one, first, made, second = step
    if not _is_machine(one) or not _is_machine(made) or one[0] != k or made[0] != k:
        return False
    both = _behind(before, one)
    return both is not None and _is_closed(_rule_machine(k, rule), one, first) and _is_closed(both, made, second)


def _last_machine(k, paper):
    """Return the machine of a paper ([261])."""
    return paper[-1][2] if paper else _still(k)


def _is_paper(k, rules, paper):
    """Return True if a value is a paper of a list of rules, otherwise False; the list is not checked."""
    if not isinstance(paper, list) or len(paper) != len(rules):
        return False
    for at, (rule, step) in enumerate(zip(rules, paper)):
        if not _is_step(k, rule, _last_machine(k, paper[:at]), step):
            return False
    return True


def is_paper(k, rules, paper):
    """Return True if a list is a paper of a list of rules, otherwise False."""
    _check_lists(k, [rules])
    return _is_paper(k, rules, paper)


def _are_alike(k, one, other, answer):
    """Return True if an answer shows that two lists are alike, otherwise False."""
    if not _is_tuple(answer, 4) or answer[0] != ALIKE:
        return False
    _, paper, paper2, table = answer
    if not _is_paper(k, one, paper) or not _is_paper(k, other, paper2):
        return False
    return _is_closed(_last_machine(k, paper), _last_machine(k, paper2), table)


def _are_apart(k, one, other, answer):
    """Return True if an answer shows that two lists are not alike, otherwise False."""
    if not _is_tuple(answer, 2) or answer[0] != APART:
        return False
    word = answer[1]
    if not isinstance(word, str) or len(word) > LONGEST_SHOWN or not _is_of(LETTERS[:k], word):
        return False
    return _form(one, word) != _form(other, word)


def shown(k, one, other, answer):
    """Return what an answer shows of two lists, `"alike"` or `"apart"`, otherwise `"none"`."""
    _check_lists(k, [one, other])
    if _are_alike(k, one, other, answer):
        return ALIKE
    return APART if _are_apart(k, one, other, answer) else NONE


def table_shown(one, other, table):
    """Return True if a list is a closed table of two machines with as many letters, otherwise False."""
    _check_machine(one)
    _check_machine(other)
    return one[0] == other[0] and _is_closed(one, other, table)


def pair_shown(machine, one, other):
    """Return True if two strings are different words with the same form by a machine, otherwise False."""
    _check_machine(machine)
    if one == other or not _is_of(LETTERS[:machine[0]], one + other):
        return False
    return _form_by(machine, one) == _form_by(machine, other)


def _moves(machine, state):
    """Return the moves of a state, the end first: what is written, and the state then ([182])."""
    last, entries = machine[2][state]
    return [(last, ENDED), *entries]


def _reached(machine):
    """Return the list of the states that words reach."""
    found = {0: True}
    todo = [0]
    while todo:
        state = todo.pop()
        for _, after in machine[2][state][1]:
            if after not in found:
                found[after] = True
                todo.append(after)
    return list(found)


def _beginnings(machine):
    """Return the list of the beginnings of the comparison of a machine with itself ([182])."""
    found = []
    for state in _reached(machine):
        moves = _moves(machine, state)
        for at, (out, after) in enumerate(moves):
            for out2, after2 in moves[at + 1:]:
                left = _left(out, out2)
                if left is not None:
                    found.append((after, after2, left))
    return found


def _places_after(machine, place):
    """Return the list of the places that follow from a place ([183])."""
    state, state2, (left, left2) = place
    if left2 != "" or (left == "" and state != ENDED):
        moves = [] if state == ENDED else _moves(machine, state)
        places = [(after, state2, _left(out, left2)) for out, after in moves]
    else:
        moves = [] if state2 == ENDED else _moves(machine, state2)
        places = [(state, after, _left(left, out)) for out, after in moves]
    return [after for after in places if after[2] is not None]


def places_shown(machine, places):
    """Return True if a list is a closed list of places of a machine, otherwise False ([184])."""
    _check_machine(machine)
    if not isinstance(places, list) or not all([_is_entry(place, ENDED, machine, machine) for place in places]):
        return False
    if not all([_is_of(LETTERS[:machine[0]], left + left2) for _, _, (left, left2) in places]):
        return False
    found = {place: True for place in places}
    if len(found) < len(places) or DONE in found:
        return False
    if not all([place in found for place in _beginnings(machine)]):
        return False
    for place in places:
        if not all([after in found for after in _places_after(machine, place)]):
            return False
    return True
