"""Words, rules and numbers that several tests use, made without the program."""

from itertools import product

LETTERS = "abcdef"
BAD_NUMBERS = (1, 0, 7, -1, -2, -6, 100, 10 ** 30, -10 ** 30, 10 ** 5000)


def words_up_to(k, length):
    """Return all words of at most so many letters, in order."""
    return ["".join(word) for many in range(length + 1)
            for word in product(LETTERS[:k], repeat=many)]


def sets_of(k):
    """Return all sets of letters, written as places."""
    return ["".join(letter for at, letter in enumerate(LETTERS[:k]) if number >> at & 1)
            for number in range(1, 2 ** k)]


def left_contexts(k):
    """Return all contexts that may stand on the left."""
    sets = sets_of(k)
    firsts = sets + ["#"]
    return [()] + [(place,) for place in firsts] + [pair for pair in product(firsts, sets)]


def right_contexts(k):
    """Return all contexts that may stand on the right."""
    return [context[::-1] for context in left_contexts(k)]


def all_rules(k):
    """Return all rules of k letters."""
    return list(product(LETTERS[:k], words_up_to(k, 3), left_contexts(k), right_contexts(k)))


def slow_indexes(rule, word):
    """Return where a rule stands, by a word with edges around it and each place in turn."""
    letter, _, left, right = rule
    edged = "##" + word + "##"
    found = []
    for at in range(len(word)):
        window = edged[at + 2 - len(left):at + 3 + len(right)]
        places = (*left, letter, *right)
        if all(sign in place for sign, place in zip(window, places, strict=True)):
            found.append(at)
    return found


def slow_change(rule, word):
    """Return the word that a rule makes, by the indexes above."""
    places = slow_indexes(rule, word)
    return "".join(rule[1] if at in places else letter for at, letter in enumerate(word))
