"""Rules that are found for words and the forms that they are to have."""

from itertools import combinations

from soundturns.errors import BadNumber, NoAnswer, TooLarge
from soundturns.rules import EDGE, check_rules, parts_of
from soundturns.ways import mask_of, states_in
from soundturns.words import check_word, letters_of, words_of_length

BLOCK = 32
LONGEST_QUESTION = 3
MARK = "*"
MOST_LETTERS = 3
MOST_NEW = 2
MOST_PAIRS = 40
# One sign for each pair of neighbours of a letter, of three letters and the edge.
SIGNS = "GHIJKLMNOPQRSTUV"


def _check_numbers(k, n):
    """Return None, or raise BadNumber for k or n."""
    if k < 2 or k > MOST_LETTERS:
        raise BadNumber("the number of letters is not 2 or 3")
    if n < 0 or n > MOST_NEW:
        raise BadNumber("the number of new letters is not from 0 to 2")


def _check_pairs(k, pairs):
    """Return None, or raise NotWord for a word of pairs, then TooLarge for their number."""
    for word, made in pairs:
        check_word(k, word)
        check_word(k, made)
    if len(pairs) > MOST_PAIRS:
        raise TooLarge("there are more than 40 pairs")


def _words_up_to(k, most):
    """Return the list of all words of at most so many letters, in order."""
    return [word for length in range(most + 1) for word in words_of_length(k, length)]


def _contexts(k):
    """Return the list of all contexts with at most one place, in order."""
    letters = letters_of(k)
    sets = ["".join(chosen) for many in range(1, k + 1) for chosen in combinations(letters, many)]
    return [()] + [(place,) for place in [EDGE, *sets]]


def _simple_rules(k, n):
    """Return the list of all simple rules, in order; nothing is checked."""
    contexts = _contexts(k)
    news = _words_up_to(k, n)
    return [(letter, new, left, right) for letter in letters_of(k) for new in news if new != letter
            for left in contexts for right in contexts]


def simple_rules(k, n):
    """Return the list of all simple rules with at most n letters in `new`, in order."""
    _check_numbers(k, n)
    return _simple_rules(k, n)


def _changed(rule, word, known):
    """Return what a rule makes of a word of any length, block by block.

    `known` keeps what becomes of blocks: long words on the way are made of few different ones.
    """
    left, right = len(rule[2]), len(rule[3])
    made = []
    for begin in range(0, len(word), BLOCK):
        before = min(left, begin)
        # With so many letters around it, no letter of the block is taken to stand at an edge where it does not.
        seen = word[begin - before:begin + BLOCK + right]
        if (before, seen) not in known:
            known[before, seen] = "".join(parts_of(rule, seen)[before:before + BLOCK])
        made.append(known[before, seen])
    return "".join(made)


def _explains(rules, pairs):
    """Return True if a list of rules explains pairs, otherwise False; nothing is checked."""
    known = [{} for _ in rules]
    for word, made in pairs:
        for rule, blocks in zip(rules, known):
            word = _changed(rule, word, blocks)
        if word != made:
            return False
    return True


def explains(k, rules, pairs):
    """Return True if a list of rules explains pairs, otherwise False."""
    check_rules(k, rules)
    _check_pairs(k, pairs)
    return _explains(rules, pairs)


def _fits(context, side):
    """Return True if a context with at most one place fits a neighbour, a letter or the edge, otherwise False."""
    return context == () or side in context[0]


class Finder:
    """Tells which simple rules, by their numbers in order, make of words what they are to become.

    A letter of a word is looked at by its two neighbours alone, and each pair of neighbours has a sign. So what all
    rules for a letter make of a word is found with few looks at its letters.
    """

    def __init__(self, k, n):
        self.rules = _simple_rules(k, n)
        self.letters = letters_of(k)
        self.news = _words_up_to(k, n)
        self.sides = self.letters + EDGE
        contexts = _contexts(k)
        self.fitting = [self.signs_of(left, right) for left in contexts for right in contexts]
        self.known = {}

    def sign(self, left, right):
        """Return the sign of a pair of neighbours."""
        return SIGNS[self.sides.index(left) * len(self.sides) + self.sides.index(right)]

    def signs_of(self, left, right):
        """Return the signs of the pairs of neighbours that two contexts fit."""
        return "".join([self.sign(one, other) for one in self.sides for other in self.sides
                        if _fits(left, one) and _fits(right, other)])

    def marked(self, word, letter):
        """Return a word with a mark wherever a rule for a letter stands, for each pair of contexts."""
        edged = EDGE + word + EDGE
        signed = "".join([self.sign(edged[at], edged[at + 2]) if old == letter else old
                          for at, old in enumerate(word)])
        signs = sorted({sign for sign in signed if sign in SIGNS})
        found = []
        for fitting in self.fitting:
            text = signed
            for sign in signs:
                text = text.replace(sign, MARK if sign in fitting else letter)
            found.append(text)
        return found

    def makers(self, word, made):
        """Return the mask of the numbers of the rules that change a word into another one."""
        if (word, made) not in self.known:
            fits = []
            for letter in self.letters:
                marked = self.marked(word, letter)
                fits.extend([text.replace(MARK, new) == made for new in self.news if new != letter
                             for text in marked])
            self.known[word, made] = mask_of([number for number, is_fit in enumerate(fits) if is_fit])
        return self.known[word, made]

    def explaining(self, pairs):
        """Return the mask of the numbers of the rules that explain pairs."""
        mask = (1 << len(self.rules)) - 1
        for word, made in pairs:
            mask &= self.makers(word, made)
            if mask == 0:
                break
        return mask

    def told(self, mask):
        """Return the list of the rules with the numbers that a mask tells, in order."""
        return [self.rules[number] for number in states_in(mask)]

    def first_of(self, pairs):
        """Return the first rule that explains pairs, or None."""
        found = self.told(self.explaining(pairs))
        return found[0] if found else None


def explaining(k, n, pairs):
    """Return the list of all simple rules with at most n letters in `new` that explain pairs, in order."""
    _check_numbers(k, n)
    _check_pairs(k, pairs)
    finder = Finder(k, n)
    return finder.told(finder.explaining(pairs))


def first_rule(k, n, pairs):
    """Return the first simple rule with at most n letters in `new` that explains pairs, or None."""
    _check_numbers(k, n)
    _check_pairs(k, pairs)
    return Finder(k, n).first_of(pairs)


def _first_two(finder, pairs):
    """Return the first list of two simple rules that explains pairs, or None."""
    for one in finder.rules:
        other = finder.first_of([("".join(parts_of(one, word)), made) for word, made in pairs])
        if other is not None:
            return one, other
    return None


def first_list(k, n, m, pairs):
    """Return the first list of at most m simple rules that explains pairs, or None."""
    _check_numbers(k, n)
    if m < 0 or m > 2 or (m == 2 and k == MOST_LETTERS):
        raise BadNumber("the number of rules is not from 0 to 2, or is 2 for three letters")
    _check_pairs(k, pairs)
    if _explains((), pairs):
        return ()
    if m == 0:
        return None
    finder = Finder(k, n)
    rule = finder.first_of(pairs)
    if rule is not None:
        return (rule,)
    return _first_two(finder, pairs) if m == 2 else None


def first_question(k, n, pairs):
    """Return the first word that the first rule and some other rule that explains pairs change differently, or None.

    Simple rules that change all words of at most three letters alike are alike. That has been tried for all of them.
    """
    _check_numbers(k, n)
    _check_pairs(k, pairs)
    finder = Finder(k, n)
    found = finder.explaining(pairs)
    if found == 0:
        raise NoAnswer("no simple rule explains the pairs")
    rule = finder.told(found)[0]
    for word in _words_up_to(k, LONGEST_QUESTION):
        if found & ~finder.makers(word, "".join(parts_of(rule, word))):
            return word
    return None
