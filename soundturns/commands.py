"""The commands of a desk: the words that they take, and what they do.

The name of a list stands for a thing, the pair of its number of letters and its rules. What a command takes is told
by one sign for each word: N for a new name, L for the name of a list, X for an integer, W for a word of letters. T
at the end stands for any words.
"""

from soundturns.apart import is_one_to_one
from soundturns.equal import first_word, least_table
from soundturns.errors import BadNumber, NotRule
from soundturns.feeding import bleeding, feeding, idle
from soundturns.finding import first_rule
from soundturns.images import missing
from soundturns.lines import told, untold
from soundturns.lists import acting, form_of, renamed_rules, steps_of, turned_rules
from soundturns.making import list_machine
from soundturns.orders import needless, orders, thinned, unsteady
from soundturns.papers import decide, shows
from soundturns.rules import MOST_RULES
from soundturns.sources import first_source, is_endless, source_counts
from soundturns.texts import read_rules, text_of_rules
from soundturns.traces import pieces

DROP = "drop"
NOTHING = "none"
NO_ENTRIES = "empty"
NO = "no"
YES = "yes"


def _entries(texts):
    """Return the answer with some texts."""
    return " ".join(texts) or NO_ENTRIES


def _numbers(numbers):
    """Return the answer with a list of integers."""
    return _entries([str(number) for number in numbers])


def _words(words):
    """Return the answer with a list of words of letters."""
    return _entries([told(word) for word in words])


def _word_or(word, otherwise):
    """Return the answer with a word of letters, or another answer if there is none."""
    return otherwise if word is None else told(word)


def _check_letters(one, other):
    """Return None, or raise BadNumber if two things have different numbers of letters."""
    if one[0] != other[0]:
        raise BadNumber("two lists have different numbers of letters")


def _rule(thing, index):
    """Return the rule of a thing with an index."""
    rules = thing[1]
    if index >= len(rules):
        raise BadNumber("there is no rule with this index")
    return rules[index]


def _machines(one, other):
    """Return the machines of two things."""
    return list_machine(*one), list_machine(*other)


def _listed(k, words):
    """Return the thing with a text."""
    return k, read_rules(k, " ".join(words))


def _joined(one, other):
    """Return the thing with the rules of two things."""
    _check_letters(one, other)
    rules = one[1] + other[1]
    if len(rules) > MOST_RULES:
        raise NotRule("a list has at most eight rules")
    return one[0], rules


def _turned(thing):
    """Return the thing turned about."""
    return thing[0], turned_rules(*thing)


def _renamed(thing, names):
    """Return the thing renamed by an arrangement."""
    return thing[0], renamed_rules(*thing, names)


def _thinned(thing):
    """Return the thing without needless rules."""
    return thing[0], thinned(*thing)


def _learned(k, most, words):
    """Return the thing with the first rule for words and their forms, or None."""
    if len(words) % 2 == 1:
        raise BadNumber("the number of words is odd")
    texts = [untold(word) for word in words]
    rule = first_rule(k, most, list(zip(texts[::2], texts[1::2])))
    return None if rule is None else (k, (rule,))


def _text(thing):
    """Return the answer of `show`."""
    return text_of_rules(*thing)


def _form(thing, word):
    """Return the answer of `form`."""
    return told(form_of(*thing, word))


def _steps(thing, word):
    """Return the answer of `steps`."""
    return _words(steps_of(*thing, word))


def _pieces(thing, word):
    """Return the answer of `pieces`."""
    return _words(pieces(*thing, word))


def _acting(thing, word):
    """Return the answer of `acting`."""
    return _numbers(acting(*thing, word))


def _first(thing, word):
    """Return the answer of `first`."""
    return _word_or(first_source(list_machine(*thing), word), NOTHING)


def _endless(thing, word):
    """Return the answer of `endless`."""
    return YES if is_endless(list_machine(*thing), word) else NO


def _sources(thing, word, length):
    """Return the answer of `sources`."""
    return _numbers(source_counts(list_machine(*thing), word, length))


def _machine(thing):
    """Return the answer of `machine`."""
    return str(len(list_machine(*thing)[2]))


def _single(thing):
    """Return the answer of `single`."""
    return YES if is_one_to_one(list_machine(*thing)) else NO


def _missing(thing):
    """Return the answer of `missing`."""
    return _word_or(missing(list_machine(*thing)), NOTHING)


def _needless(thing):
    """Return the answer of `needless`."""
    return _numbers(needless(*thing))


def _idle(thing):
    """Return the answer of `idle`."""
    return _numbers(idle(*thing))


def _steady(thing):
    """Return the answer of `steady`."""
    return _word_or(unsteady(*thing), YES)


def _orders(thing):
    """Return the answer of `orders`."""
    return str(len(orders(*thing)))


def _alike(one, other):
    """Return the answer of `alike`."""
    machine, machine2 = _machines(one, other)
    return _word_or(first_word(machine, machine2), YES)


def _decide(one, other):
    """Return the answer of `decide`."""
    _check_letters(one, other)
    return shows(decide(one[0], one[1], other[1]))


def _table(one, other):
    """Return the answer of `table`."""
    machine, machine2 = _machines(one, other)
    table = least_table(machine, machine2)
    return NOTHING if table is None else str(len(table))


def _feeds(one, index, other, index2):
    """Return the answer of `feeds`."""
    _check_letters(one, other)
    return _word_or(feeding(one[0], _rule(one, index), _rule(other, index2)), NOTHING)


def _bleeds(one, index, other, index2):
    """Return the answer of `bleeds`."""
    _check_letters(one, other)
    return _word_or(bleeding(one[0], _rule(one, index), _rule(other, index2)), NOTHING)


# What these commands return is put under the name that stands first.
MAKERS = {"list": _listed, "join": _joined, "turn": _turned, "rename": _renamed, "thin": _thinned, "learn": _learned}

TELLERS = {"show": _text, "form": _form, "steps": _steps, "pieces": _pieces, "acting": _acting, "first": _first,
           "endless": _endless, "sources": _sources, "machine": _machine, "single": _single, "missing": _missing,
           "needless": _needless, "idle": _idle, "steady": _steady, "orders": _orders, "alike": _alike,
           "decide": _decide, "table": _table, "feeds": _feeds, "bleeds": _bleeds}

TAKEN = {"list": "NXT", "drop": "L", "show": "L", "join": "NLL", "turn": "NL", "rename": "NLW", "thin": "NL",
         "learn": "NXXT", "form": "LW", "steps": "LW", "pieces": "LW", "acting": "LW", "first": "LW", "endless": "LW",
         "sources": "LWX", "machine": "L", "single": "L", "missing": "L", "needless": "L", "idle": "L", "steady": "L",
         "orders": "L", "alike": "LL", "decide": "LL", "table": "LL", "feeds": "LXLX", "bleeds": "LXLX"}
