"""Which letters of a form come from which letters of the word."""

from soundturns.errors import BadNumber
from soundturns.lists import check_list, check_made
from soundturns.rules import parts_of


def _joined(parts, lengths):
    """Return parts joined in groups, as many in each as its length tells."""
    groups = []
    begin = 0
    for length in lengths:
        groups.append("".join(parts[begin:begin + length]))
        begin += length
    return groups


def _pieces(rules, word):
    """Return the pieces of a word; only the lengths of the words that are made are checked."""
    found = list(word)
    for rule in rules:
        parts = parts_of(rule, "".join(found))
        check_made("".join(parts))
        found = _joined(parts, [len(piece) for piece in found])
    return found


def pieces(k, rules, word):
    """Return the list of the pieces, one for each letter of a word."""
    check_list(k, rules, word)
    return _pieces(rules, word)


def trace_of(k, rules, word):
    """Return the list of the indexes from which the letters of the form come."""
    trace = []
    for at, piece in enumerate(pieces(k, rules, word)):
        trace.extend([at] * len(piece))
    return trace


def piece_of(k, rules, word, at):
    """Return the piece of an index of a word."""
    check_list(k, rules, word)
    if at < 0 or at >= len(word):
        raise BadNumber("there is no letter with this index")
    return _pieces(rules, word)[at]


def lost(k, rules, word):
    """Return the list of the indexes whose pieces are empty, ascending."""
    return [at for at, piece in enumerate(pieces(k, rules, word)) if piece == ""]
