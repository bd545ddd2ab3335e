"""Desks, which answer lines of text."""

from soundturns.commands import DROP, MAKERS, NOTHING, TAKEN, TELLERS
from soundturns.errors import ShiftError
from soundturns.lines import is_name, number_in, untold, words_of

BAD = "bad"
OK = "ok"
REFUSED = "refused"
UNKNOWN = "unknown"


def _may_stand(sign, word):
    """Return True if a word may stand where a command takes what a sign tells, otherwise False."""
    if sign in "NL":
        return is_name(word)
    return sign != "X" or number_in(word) is not None


def _are_taken(taken, words):
    """Return True if words may stand behind a command that takes what signs tell, otherwise False."""
    if taken.endswith("T"):
        taken = taken[:-1]
        words = words[:len(taken)]
    return len(words) == len(taken) and all([_may_stand(sign, word) for sign, word in zip(taken, words)])


class Desk:
    """Keeps lists of rules by names, each with its number of letters, and answers lines."""

    def __init__(self):
        self.things = {}

    def names(self):
        """Return the sorted list of the names that have a list."""
        return sorted(self.things)

    def thing(self, name):
        """Return the pair of the number of letters and the list of a name, or None."""
        return self.things.get(name)

    def answer(self, line):
        """Return the answer to a line, and change the desk."""
        words = words_of(line)
        if words is None:
            return BAD
        command, *rest = words
        if command not in TAKEN or not _are_taken(TAKEN[command], rest):
            return BAD
        for sign, word in zip(TAKEN[command], rest):
            if sign == "L" and word not in self.things:
                return f"{UNKNOWN} {word}"
        try:
            return self.done(command, rest)
        except ShiftError:
            return REFUSED

    def answers(self, lines):
        """Return the list of the answers to several lines, in order."""
        return [self.answer(line) for line in lines]

    def done(self, command, words):
        """Return the answer to a command whose words are right, and change the desk."""
        if command == DROP:
            del self.things[words[0]]
            return OK
        given = self.given(TAKEN[command], words)
        if command in TELLERS:
            teller = TELLERS[command]
            return teller(*given)
        maker = MAKERS[command]
        thing = maker(*given)
        if thing is None:
            return NOTHING
        self.things[words[0]] = thing
        return str(len(thing[1]))

    def given(self, taken, words):
        """Return the list of what words stand for by the signs of a command; a new name is left out."""
        found = []
        for at, sign in enumerate(taken):
            if sign == "L":
                found.append(self.things[words[at]])
            elif sign == "X":
                found.append(number_in(words[at]))
            elif sign == "W":
                found.append(untold(words[at]))
            elif sign == "T":
                found.append(words[at:])
        return found

    def copied(self):
        """Return another desk with the same lists."""
        other = Desk()
        other.things = dict(self.things)
        return other
