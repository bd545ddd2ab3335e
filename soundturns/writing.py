"""Where the writing of forms may stand, letter by letter."""

from soundturns.ways import accepting_states, language_nexts, leading_to
from soundturns.words import LETTERS

ENDED = -1


class Writing:
    """The writing of the forms of the words that a language takes, by a machine.

    A place is a tuple `(state, within, rest)`: a state of the machine, or -1 behind the end of the word, a state
    of the language, and what is still to be written of the last word. Places have numbers, as they are found.

    All the places at which the writing may stand are told by the ascending tuple of the numbers of some of them:
    a place with a whole word to be written is left out, as the place in front of this word is there.
    """

    def __init__(self, machine, language):
        self.first = (0, 0, machine[1])
        self.letters = LETTERS[:machine[0]]
        self.states = machine[2]
        self.rows = language[1]
        # From the other states of the language no word that it takes goes on.
        self.useful = leading_to(language_nexts(language), accepting_states(language))
        self.places = []
        self.numbers = {}
        self.steps = []
        self.quiet = []
        self.fronts = {}

    def number_of(self, place):
        """Return the number of a place, a new one if it has none."""
        if place not in self.numbers:
            self.numbers[place] = len(self.places)
            self.places.append(place)
            self.steps.append(None)
            self.quiet.append(())
        return self.numbers[place]

    def whole_words(self, state, within):
        """Return the places behind two states, each with the whole next word to be written."""
        last, entries = self.states[state]
        accepting, afters = self.rows[within]
        found = [(after, after_it, out) for (out, after), after_it in zip(entries, afters) if after_it in self.useful]
        if accepting:
            found.append((ENDED, within, last))
        return found

    def step(self, number, place):
        """Note that the first letter of the rest of a place is written next, from the place with a number."""
        state, within, rest = place
        self.steps[number].append((rest[0], self.number_of((state, within, rest[1:]))))

    def go_on(self, number):
        """Note the places behind the place with a number, and what is written on the way, a letter or nothing."""
        place = self.places[number]
        state, within, rest = place
        self.steps[number] = []
        if rest != "":
            self.step(number, place)
        elif state != ENDED:
            nexts = self.whole_words(state, within)
            self.quiet[number] = tuple([self.number_of(after) for after in nexts if after[2] == ""])
            for after in nexts:
                if after[2] != "":
                    self.fronts.setdefault(after, []).append(number)
                    self.step(number, after)

    def is_told(self, number, found):
        """Return True if the place in front of the word that a place has still to write is found, too."""
        return any([front in found for front in self.fronts.get(self.places[number], [])])

    def all_from(self, numbers):
        """Return the tuple that tells some places and those to which the writing goes on without a letter."""
        found = {}
        todo = numbers
        while todo:
            new = list({number: True for number in todo if number not in found})
            for number in new:
                found[number] = True
                if self.steps[number] is None:
                    self.go_on(number)
            todo = [after for number in new for after in self.quiet[number]]
        places = self.places
        return tuple([number for number in sorted(found)
                      if places[number][2] == "" or not self.is_told(number, found)])

    def beginning(self):
        """Return the tuple that tells where the writing may stand at first."""
        return self.all_from([self.number_of(self.first)] if 0 in self.useful else [])

    def behind(self, numbers):
        """Return the tuples behind a tuple, one for each letter that is written."""
        afters = {letter: [] for letter in self.letters}
        for number in numbers:
            for letter, after in self.steps[number]:
                afters[letter].append(after)
        return [self.all_from(found) for found in afters.values()]

    def may_end(self, numbers):
        """Return True if all may be written at one of the places of a tuple, otherwise False."""
        return any([self.places[number][0] == ENDED and self.places[number][2] == "" for number in numbers])
