"""The errors that the program raises."""


class ShiftError(ValueError):
    """The base class of all errors of this program."""


class NotWord(ShiftError):
    """A string is not a word, or not an arrangement of the letters."""


class NotRule(ShiftError):
    """A tuple is not a rule, or not a list of rules."""


class NotMachine(ShiftError):
    """A tuple is not a machine."""


class NotLanguage(ShiftError):
    """A tuple is not a language."""


class NotBook(ShiftError):
    """A tuple is not a book."""


class BadNumber(ShiftError):
    """An integer is out of its range."""


class NoAnswer(ShiftError):
    """There is nothing that could be the answer."""


class TooLarge(ShiftError):
    """Something that is made or looked at is too large."""


class OpenTrial(ShiftError):
    """A trial is open where none may be, or none is where one must be."""


class Malformed(ShiftError):
    """A text is malformed; `at` is the number of the word at which this shows."""

    def __init__(self, at):
        self.at = at


class BadJournal(ShiftError):
    """A text is not a record; `row` is the index of the first wrong row."""

    def __init__(self, row):
        self.row = row
