"""Books: the forms of stems in the cells of their classes, and the stems that have given forms."""

from soundturns.equal import first_word
from soundturns.errors import BadNumber, NotBook
from soundturns.images import sources
from soundturns.languages import all_words, both, no_word, of_words
from soundturns.lists import form_of
from soundturns.machines import MOST_WIDE_STATES, bounded, form_from, read_on, states_after
from soundturns.making import list_machine
from soundturns.rules import is_rules
from soundturns.ways import explored, first_taken
from soundturns.words import check_word, is_number_of_letters, is_word

LONGEST_ENDING = 6
LONGEST_STEM = 20
MOST_CELLS = 8
MOST_CLASSES = 6
MOST_STEMS = 40


def _is_short(k, word, most):
    """Return True if a string is a word of at most so many letters, otherwise False."""
    return len(word) <= most and is_word(k, word)


def _is_ending(k, ending):
    """Return True if None or a pair of strings is an ending, otherwise False."""
    return ending is None or all([_is_short(k, word, LONGEST_ENDING) for word in ending])


def _are_classes(k, classes):
    """Return True if a tuple holds as many classes as there may be, otherwise False."""
    if len(classes) < 1 or len(classes) > MOST_CLASSES:
        return False
    cells = len(classes[0])
    if cells < 1 or cells > MOST_CELLS:
        return False
    return all([len(endings) == cells and all([_is_ending(k, ending) for ending in endings])
                for endings in classes])


def is_book(book):
    """Return True if a tuple is a book, otherwise False."""
    k, rules, stems, classes = book
    if not is_number_of_letters(k) or not is_rules(k, rules) or not _are_classes(k, classes):
        return False
    if len(stems) > MOST_STEMS:
        return False
    return all([_is_short(k, stem, LONGEST_STEM) and 0 <= index < len(classes) for stem, index in stems])


def _check_book(book):
    """Return None, or raise NotBook."""
    if not is_book(book):
        raise NotBook("a tuple is no book")


def _check_index(index, things):
    """Return None, or raise BadNumber if a tuple has nothing at an index."""
    if index < 0 or index >= len(things):
        raise BadNumber("there is no stem, no class or no cell with this number")


def _check_cell(book, cell):
    """Return None, or raise BadNumber if the classes have no cell with a number."""
    _check_index(cell, book[3][0])


def _check_class_and_cell(book, index, cell):
    """Return None, or raise NotBook, or BadNumber for the number of a class or of a cell."""
    _check_book(book)
    _check_index(index, book[3])
    _check_cell(book, cell)


def _form(book, index, cell):
    """Return the form of a stem in a cell, or None; only the lengths of the words that are made are checked."""
    k, rules, stems, classes = book
    stem, number = stems[index]
    ending = classes[number][cell]
    return None if ending is None else form_of(k, rules, ending[0] + stem + ending[1])


def _forms(book, index):
    """Return the paradigm of a stem; only the lengths of the words that are made are checked."""
    return [_form(book, index, cell) for cell in range(len(book[3][0]))]


def form_at(book, index, cell):
    """Return the form of the stem with a number in a cell, or None."""
    _check_book(book)
    _check_index(index, book[2])
    _check_cell(book, cell)
    return _form(book, index, cell)


def paradigm(book, index):
    """Return the list of the forms of the stem with a number in all cells."""
    _check_book(book)
    _check_index(index, book[2])
    return _forms(book, index)


def _places_by_forms(book):
    """Return the lists of the places at which words stand, by these words, in the order of the first places."""
    found = {}
    for index in range(len(book[2])):
        for cell, told in enumerate(_forms(book, index)):
            if told is not None:
                found.setdefault(told, []).append((index, cell))
    return found


def told_back(book, word):
    """Return the list of the places at which a word stands."""
    _check_book(book)
    check_word(book[0], word)
    return _places_by_forms(book).get(word, [])


def fallen(book):
    """Return the list of the pairs of a word that stands at several places and the list of them."""
    _check_book(book)
    return [(word, places) for word, places in _places_by_forms(book).items() if len(places) > 1]


def _list_machine(book):
    """Return the machine of the rules of a book."""
    return list_machine(book[0], book[1])


def _machine_within(machine, ending):
    """Return the machine of a cell with an ending, by the machine of the rules, or None."""
    if ending is None:
        return None
    before, after = ending
    k, first, rows = machine
    told, start = read_on(rows, 0, before)
    nexts = states_after(rows)
    states, entries = explored(start, lambda state: nexts[state], MOST_WIDE_STATES)
    made = []
    for state, row in zip(states, entries):
        outs = [out for out, _ in rows[state][1]]
        made.append((bounded(form_from(rows, state, after)), tuple(list(zip(outs, row)))))
    return k, bounded(first + told), tuple(made)


def cell_machine(book, index, cell):
    """Return the machine of a cell of the class with a number, or None if the form is lacking."""
    _check_class_and_cell(book, index, cell)
    return _machine_within(_list_machine(book), book[3][index][cell])


def _first_apart(machine, ending, ending2):
    """Return the first stem whose forms with two endings differ, or None."""
    one = _machine_within(machine, ending)
    other = _machine_within(machine, ending2)
    if one is None and other is None:
        return None
    # A lacking form differs from each form, so the first stem of all shows it.
    return "" if one is None or other is None else first_word(one, other)


def falls_together(book, one, other):
    """Return the first stem whose forms in two cells, pairs of a class and a cell, differ, or None."""
    _check_book(book)
    for index, _ in (one, other):
        _check_index(index, book[3])
    for _, cell in (one, other):
        _check_cell(book, cell)
    classes = book[3]
    return _first_apart(_list_machine(book), classes[one[0]][one[1]], classes[other[0]][other[1]])


def classes_differ(book, one, other):
    """Return the pair of the first cell in which two classes differ and the first stem that shows it, or None."""
    _check_book(book)
    classes = book[3]
    _check_index(one, classes)
    _check_index(other, classes)
    machine = _list_machine(book)
    for cell, (ending, ending2) in enumerate(zip(classes[one], classes[other])):
        stem = _first_apart(machine, ending, ending2)
        if stem is not None:
            return cell, stem
    return None


def _stems(machine, ending, word):
    """Return the least language of the stems that have a word as their form, by the machine of the rules."""
    within = _machine_within(machine, ending)
    if within is None:
        return no_word(machine[0])
    return sources(within, of_words(machine[0], [word]))


def stems_of(book, index, cell, word):
    """Return the least language of all stems whose form in a cell of the class with a number is a word."""
    _check_class_and_cell(book, index, cell)
    check_word(book[0], word)
    return _stems(_list_machine(book), book[3][index][cell], word)


def stems_like(book, index, forms):
    """Return the least language of all stems of the class with a number that have told forms in cells."""
    _check_book(book)
    k, _, _, classes = book
    _check_index(index, classes)
    for cell, word in forms:
        _check_cell(book, cell)
        check_word(k, word)
    language = all_words(k)
    # Without told forms nothing is asked of the rules.
    if not forms:
        return language
    machine = _list_machine(book)
    for cell, word in forms:
        language = both(language, _stems(machine, classes[index][cell], word))
    return language


def guesses(book, word):
    """Return the list of the triples of a class, a cell and the first stem whose form there is a word."""
    _check_book(book)
    check_word(book[0], word)
    machine = _list_machine(book)
    found = []
    for index, endings in enumerate(book[3]):
        for cell, ending in enumerate(endings):
            stem = first_taken(_stems(machine, ending, word))
            if stem is not None:
                found.append((index, cell, stem))
    return found
