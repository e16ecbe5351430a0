"""The commands of a desk: how their words are read, and what they work out.

A form has a letter for each word behind the command: N a new name, T, G, P and L the name of
a table, of a program, of a play and of any of these, X an integer, V any number of integers,
W any word, U any words.
"""

from coheir.backs import met_kinds, met_stands
from coheir.bars import bar
from coheir.buffered import buffered_observations
from coheir.coherence import bad_run, fewest_caches, is_coherent, passes
from coheir.fences import is_steady
from coheir.giving import gives
from coheir.lineplay import moves_in
from coheir.lines import is_name, number_in
from coheir.plain import plain_observations
from coheir.progtexts import text_of_program
from coheir.races import has_race
from coheir.tabletexts import text_of_table

FORMS = {
    "table": ("NU",), "sample": ("NW",), "cut": ("NTV",), "forget": ("NTX",), "program": ("NU",),
    "fence": ("NGXX",), "made": ("NT",), "play": ("NTX",), "drop": ("L",), "show": ("L",),
    "row": ("PXX", "PXXX"), "load": ("PX",), "store": ("PXX",), "home": ("P",), "caches": ("P",), "moves": ("P",),
    "stands": ("T",), "kinds": ("T",), "bar": ("T",), "coherent": ("T",), "passes": ("T",), "gives": ("TX",),
    "fewest": ("T",), "badrun": ("T",), "plain": ("G",), "buffered": ("G",), "race": ("G",), "steady": ("G",),
}


def form_of(words):
    """Return the form that the words of a line have, or None."""
    for form in FORMS.get(words[0], ()):
        if has_form(form, words[1:]):
            return form
    return None


def has_form(form, words):
    """Tell whether words stand for the letters of a form."""
    single = form.rstrip("UV")
    if len(words) < len(single) or (single == form and len(words) > len(single)):
        return False
    letters = single + form[-1] * (len(words) - len(single))
    return all(can_stand(letter, word) for letter, word in zip(letters, words))


def can_stand(letter, word):
    """Tell whether a word can stand for a letter of a form."""
    if letter in ("W", "U"):
        return True
    if letter in ("X", "V"):
        return number_in(word) is not None
    return is_name(word)


def names_in(form, words):
    """Return the pairs of a letter and a word that must name something, in order."""
    return [(letter, word) for letter, word in zip(form, words[1:]) if letter in ("T", "G", "P", "L")]


def told_in(words):
    """Return the list of the integers among the words behind the first one."""
    return [number_in(word) for word in words[1:] if number_in(word) is not None]


def numbers_of_table(table):
    """Return the answer with the numbers of a table."""
    rights, homes, rows = table
    return several([len(rights), homes, len(rows)])


def numbers_of_program(program):
    """Return the answer with the numbers of a program."""
    return several([len(core) for core in program])


def several(numbers):
    """Return the answer with several integers."""
    return " ".join([str(number) for number in numbers])


def caches_told(state):
    """Return the answer with the state and the copy of each cache."""
    return " / ".join([several(cache) for cache in state[2]]) if state[2] else "empty"


def yes_or_no(holds):
    """Return the answer to a question."""
    return "yes" if holds else "no"


def text_of_thing(letter, thing):
    """Return the text of a table, of a program, or of the table of a play."""
    if letter == "G":
        return text_of_program(thing)
    return text_of_table(thing if letter == "T" else thing[0])


def told_of_play(word, thing):
    """Return the answer of a command that asks about a play."""
    table, state = thing
    if word == "home":
        return several(state[:2])
    return caches_told(state) if word == "caches" else str(len(moves_in(table, state)))


def told_of_table(word, table, numbers):
    """Return the answer of a command that asks about a table."""
    if word == "stands":
        return str(len(met_stands(table)))
    if word == "kinds":
        return str(len(met_kinds(table)))
    if word == "bar":
        return str(len(bar(table)))
    if word == "badrun":
        return str(len(bad_run(table)))
    if word == "fewest":
        fewest = fewest_caches(table)
        return "never" if fewest is None else str(fewest)
    if word == "gives":
        return yes_or_no(gives(table, numbers[0]))
    return yes_or_no(is_coherent(table) if word == "coherent" else passes(table))


def told_of_program(word, program):
    """Return the answer of a command that asks about a program."""
    if word == "plain":
        return str(len(plain_observations(program)))
    if word == "buffered":
        return str(len(buffered_observations(program)))
    return yes_or_no(has_race(program) if word == "race" else is_steady(program))
