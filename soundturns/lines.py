"""Lines of text that are told to a desk, and their words."""

DIGITS = "0123456789"
EMPTY = "-"
FIRST_SIGN = "!"
LAST_SIGN = "~"
LONGEST_NAME = 12
SMALL_LETTERS = "abcdefghijklmnopqrstuvwxyz"


def _is_of(word, signs, most):
    """Return True if a word is one to so many of some characters, otherwise False."""
    return 1 <= len(word) <= most and word.strip(signs) == ""


def words_of(line):
    """Return the list of the words of a line, or None if it is malformed."""
    words = line.split(" ")
    for word in words:
        if word == "" or not all([FIRST_SIGN <= sign <= LAST_SIGN for sign in word]):
            return None
    return words


def is_name(word):
    """Return True if a word is 1 to 12 small letters, otherwise False."""
    return _is_of(word, SMALL_LETTERS, LONGEST_NAME)


def number_in(word):
    """Return the integer from 0 to 99 with this decimal form, or None."""
    if not _is_of(word, DIGITS, 2) or (len(word) == 2 and word[0] == "0"):
        return None
    return int(word)


def told(text):
    """Return the text that tells a word of letters: itself, or `-` for the empty one."""
    return text or EMPTY


def untold(word):
    """Return the word of letters that a word tells."""
    return "" if word == EMPTY else word
