"""Words, rules and numbers that several tests use, made without the program."""

from itertools import product

LETTERS = "abcdef"
# The machine of [67], of the rule that makes `a` before `a` to `b`, and the language of [146].
MACHINE = (2, "", (("", (("", 1), ("", 2))), ("a", (("b", 1), ("a", 2))), ("b", (("b", 1), ("b", 2)))))
LANGUAGE = (2, ((False, (1, 2)), (True, (2, 3)), (False, (2, 2)), (True, (2, 2))))
BAD_NUMBERS = (1, 0, 7, -1, -2, -6, 100, 10 ** 30, -10 ** 30, 10 ** 5000)


def words_up_to(k, length):
    """Return all words of at most so many letters, in order."""
    return ["".join(word) for many in range(length + 1)
            for word in product(LETTERS[:k], repeat=many)]


def sets_of(k):
    """Return all sets of letters, written as places."""
    return ["".join(letter for at, letter in enumerate(LETTERS[:k]) if number >> at & 1)
            for number in range(1, 2 ** k)]


def left_contexts(k):
    """Return all contexts that may stand on the left."""
    sets = sets_of(k)
    firsts = sets + ["#"]
    return [()] + [(place,) for place in firsts] + [pair for pair in product(firsts, sets)]


def right_contexts(k):
    """Return all contexts that may stand on the right."""
    return [context[::-1] for context in left_contexts(k)]


def all_rules(k):
    """Return all rules of k letters."""
    return list(product(LETTERS[:k], words_up_to(k, 3), left_contexts(k), right_contexts(k)))


def slow_indexes(rule, word):
    """Return where a rule stands, by a word with edges around it and each place in turn."""
    letter, _, left, right = rule
    edged = "##" + word + "##"
    found = []
    for at in range(len(word)):
        window = edged[at + 2 - len(left):at + 3 + len(right)]
        places = (*left, letter, *right)
        if all(sign in place for sign, place in zip(window, places, strict=True)):
            found.append(at)
    return found


def slow_change(rule, word):
    """Return the word that a rule makes, by the indexes above."""
    places = slow_indexes(rule, word)
    return "".join(rule[1] if at in places else letter for at, letter in enumerate(word))


def first_in_order(words):
    """Return the first of some words, in the order of words, or None if there is none."""
    return min(words, key=lambda word: (len(word), word), default=None)


def ring(states, k=2, text=""):
    """Return a machine whose states follow one another for ever, with a word to write."""
    rows = [(text, tuple((text, (state + 1) % states) for _ in range(k))) for state in range(states)]
    return k, text, tuple(rows)


def read_slowly(machine, word):
    """Return what a machine has written behind a word of any length, and its state there."""
    told = machine[1]
    state = 0
    for letter in word:
        out, state = machine[2][state][1][LETTERS.index(letter)]
        told += out
    return told, state


def slow_form(machine, word):
    """Return the form of a word of any length."""
    told, state = read_slowly(machine, word)
    return told + machine[2][state][0]


def some_word(random, k, length):
    """Return a word of at most so many letters, by a source of random numbers."""
    return "".join(random.choice(LETTERS[:k]) for _ in range(random.randint(0, length)))


def some_machine(random, k, states, length):
    """Return a machine with words of at most so many letters, by a source of random numbers."""
    rows = [(some_word(random, k, length),
             tuple((some_word(random, k, length), random.randrange(states)) for _ in range(k)))
            for _ in range(states)]
    return k, some_word(random, k, length), tuple(rows)


def some_language(random, k, states):
    """Return a language, by a source of random numbers."""
    return k, tuple((random.random() < 0.4, tuple(random.randrange(states) for _ in range(k)))
                    for _ in range(states))


def some_rule(random, k):
    """Return a rule, by a source of random numbers."""
    return (random.choice(LETTERS[:k]), some_word(random, k, 2), random.choice(left_contexts(k)),
            random.choice(right_contexts(k)))


def slow_takes(language, word):
    """Return whether a language takes a word of any length."""
    state = 0
    for letter in word:
        state = language[1][state][1][LETTERS.index(letter)]
    return language[1][state][0]


def states_by_words(nexts):
    """Return the first words that lead to the states, by states, found word by word."""
    found = {0: ""}
    level = [("", 0)]
    while level:
        level = [(word + letter, after) for word, state in level
                 for letter, after in zip(LETTERS, nexts[state])]
        new = []
        for word, after in level:
            if after not in found:
                found[after] = word
                new.append((word, after))
        level = new
    return found


def slow_list(rules, word):
    """Return the form of a word of any length by a list of rules."""
    for rule in rules:
        word = slow_change(rule, word)
    return word


def some_list(random, k, most):
    """Return a list of at most so many rules, by a source of random numbers."""
    return tuple(some_rule(random, k) for _ in range(random.randint(0, most)))


def small_rule(random, k):
    """Return a rule with at most one place on each side, by a source of random numbers."""
    sides = [(), ("#",)] + [(place,) for place in sets_of(k)]
    return random.choice(LETTERS[:k]), some_word(random, k, 1), random.choice(sides), random.choice(sides)


def first_apart(one, other, words):
    """Return the first of some words whose forms by two lists differ, or None."""
    return first_in_order([word for word in words if slow_list(one, word) != slow_list(other, word)])
