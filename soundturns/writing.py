"""Where the writing of forms may stand, letter by letter."""

from soundturns.ways import accepting_states, language_nexts, leading_to, mask_of
from soundturns.words import LETTERS

ENDED = -1
STATES_AT_ONCE = 6


class Writing:
    """The writing of the forms of the words that a language takes, by a machine.

    A place is a pair `(state, rest)`: a state of the machine, or -1 behind the end of the word, and what is still
    to be written of the last word. Places have numbers, as they are found. With each place stands a mask, an
    integer whose bits tell in which states the language may be there.

    All the places at which the writing may stand are told by a tuple of pairs of a number and a mask, ascending.
    Where a place has a whole word to be written, what the place in front of this word tells is left out.
    """

    def __init__(self, machine, language):
        self.first = machine[1]
        self.letters = LETTERS[:machine[0]]
        self.states = machine[2]
        self.many = len(language[1])
        self.whole = (1 << self.many) - 1
        accepting = accepting_states(language)
        # From the other states of the language no word that it takes goes on.
        self.useful = mask_of(leading_to(language_nexts(language), accepting))
        self.tables = self.tables_of(language_nexts(language), mask_of(accepting))
        self.places = []
        self.numbers = {}
        self.steps = []
        self.quiet = []
        self.fronts = []

    def moves_of(self, entries, ends):
        """Return the masks behind a state of the language, one for each letter and one for the end, in one integer."""
        moves = ends << len(entries) * self.many
        for read, after in enumerate(entries):
            moves |= (1 << after & self.useful) << read * self.many
        return moves

    def tables_of(self, nexts, accepting):
        """Return the tables of the moves of all sets of some states of the language that stand side by side."""
        tables = []
        for begin in range(0, self.many, STATES_AT_ONCE):
            table = [0]
            for state in range(begin, min(begin + STATES_AT_ONCE, self.many)):
                moves = self.moves_of(nexts[state], 1 << state & accepting)
                table = table + [found | moves for found in table]
            tables.append(table)
        return tables

    def moved(self, mask):
        """Return the masks behind a mask, one for each letter that is read and one for the end, in one integer."""
        moves = 0
        for table in self.tables:
            moves |= table[mask & len(table) - 1]
            mask >>= STATES_AT_ONCE
        return moves

    def number_of(self, place):
        """Return the number of a place, a new one if it has none."""
        if place not in self.numbers:
            self.numbers[place] = len(self.places)
            self.places.append(place)
            self.steps.append(None)
            self.quiet.append([])
            self.fronts.append([])
        return self.numbers[place]

    def go_on(self, number):
        """Note the places behind the place with a number, and what is written on the way, a letter or nothing.

        With each place stands how far the mask there is shifted in what `moved` returns.
        """
        state, rest = self.places[number]
        self.steps[number] = []
        if rest != "":
            self.steps[number].append((rest[0], self.number_of((state, rest[1:])), 0))
        elif state != ENDED:
            last, entries = self.states[state]
            for read, (out, after) in enumerate([*entries, (last, ENDED)]):
                self.note(number, (after, out), read * self.many)

    def note(self, number, place, shift):
        """Note that a place with a whole word to be written lies behind the place with a number."""
        state, out = place
        after = self.number_of(place)
        if out == "":
            self.quiet[number].append((after, shift))
        else:
            self.fronts[after].append((number, shift))
            self.steps[number].append((out[0], self.number_of((state, out[1:])), shift))

    def reached(self, masks):
        """Return the masks by places that are reached from some of them without a letter that is written."""
        whole = self.whole
        found = {}
        todo = masks
        while todo:
            later = {}
            for number, mask in todo.items():
                known = found.get(number, 0)
                new = mask & ~known
                if new:
                    found[number] = known | new
                    if self.steps[number] is None:
                        self.go_on(number)
                    ways = self.quiet[number]
                    if ways:
                        moves = self.moved(new)
                        for after, shift in ways:
                            later[after] = later.get(after, 0) | moves >> shift & whole
            todo = later
        return found

    def left(self, number, found):
        """Return the mask of a place without what the places in front of it tell."""
        mask = found[number]
        for front, shift in self.fronts[number]:
            if front in found:
                mask &= ~(self.moved(found[front]) >> shift)
        return mask

    def told(self, masks):
        """Return the tuple that tells some places and those to which the writing goes on without a letter."""
        found = self.reached(masks)
        kept = [(number, self.left(number, found)) for number in sorted(found)]
        return tuple([(number, mask) for number, mask in kept if mask])

    def beginning(self):
        """Return the tuple that tells where the writing may stand at first."""
        return self.told({self.number_of((0, self.first)): self.useful & 1})

    def behind(self, told):
        """Return the tuples behind a tuple, one for each letter that is written."""
        afters = {letter: {} for letter in self.letters}
        for number, mask in told:
            moves = mask if self.places[number][1] else self.moved(mask)
            for letter, after, shift in self.steps[number]:
                found = afters[letter]
                found[after] = found.get(after, 0) | moves >> shift & self.whole
        return [self.told(found) for found in afters.values()]

    def may_end(self, told):
        """Return True if all may be written at one of the places of a tuple, otherwise False."""
        return any([self.places[number] == (ENDED, "") for number, _ in told])
