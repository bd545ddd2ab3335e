"""Letters and words, and their order."""

from soundturns.errors import BadNumber, NotWord

LETTERS = "abcdef"
LEAST_LETTERS = 2
LONGEST = 60
MOST_LISTED = 4096


def is_number_of_letters(k):
    """Return True if there may be so many letters, otherwise False."""
    return LEAST_LETTERS <= k <= len(LETTERS)


def check_number(k):
    """Return None, or raise BadNumber if there cannot be so many letters."""
    # The message does not tell k: Python refuses to write very large integers.
    if not is_number_of_letters(k):
        raise BadNumber("the number of letters is not from 2 to 6")


def letters_of(k):
    """Return the string of the first k letters."""
    check_number(k)
    return LETTERS[:k]


def is_word(k, word):
    """Return True if a string is a word of at most 60 letters, otherwise False."""
    letters = letters_of(k)
    # One call of strip is much faster than a loop; machines hold thousands of words.
    return len(word) <= LONGEST and word.strip(letters) == ""


def check_word(k, word):
    """Return None, or raise NotWord if a string is no word of at most 60 letters."""
    if not is_word(k, word):
        raise NotWord("a string is no word of at most 60 of the letters")


def is_before(k, one, other):
    """Return True if the first word comes before the second one, otherwise False."""
    check_word(k, one)
    check_word(k, other)
    return (len(one), one) < (len(other), other)


def in_order(words):
    """Return the list of the words of a list in order, each one once."""
    # Sorting keeps the order of words of one length as the inner sorting has left it.
    return sorted(sorted(set(words)), key=len)


def _has_at_most(k, length, most):
    """Return True if there are at most so many words of a length, otherwise False."""
    many = 1
    for _ in range(length):
        many *= k
        if many > most:
            return False
    return True


def words_of_length(k, length):
    """Return the list of all words of a length, in order."""
    letters = letters_of(k)
    if length < 0:
        raise BadNumber("a length is negative")
    if not _has_at_most(k, length, MOST_LISTED):
        raise BadNumber("there are more than 4096 words of this length")
    words = [""]
    for _ in range(length):
        words = [word + letter for word in words for letter in letters]
    return words


def common(one, other):
    """Return the longest word with which both words begin."""
    many = 0
    for left, right in zip(one, other):
        if left != right:
            break
        many += 1
    return one[:many]


def left_over(one, other):
    """Return what is left of two words without their common beginning, or None if both are left."""
    if one.startswith(other):
        return one[len(other):], ""
    if other.startswith(one):
        return "", other[len(one):]
    return None
