"""Texts of programs."""

from coheir.programs import MOST_CORES, MOST_INSTRUCTIONS, MOST_LINE, MOST_VALUE, check_program
from coheir.wordreader import Words, decimals


def text_of_program(program):
    """Return the text of a program."""
    check_program(program)
    return " ".join([text_of_core(core) for core in program])


def text_of_core(core):
    """Return the text of a core, which begins with the word for it."""
    told = [" ".join([str(part) for part in instruction]) for instruction in core]
    return " ".join(["core", " | ".join(told)]) if told else "core"


def read_program(text):
    """Return the program with a text."""
    words = Words(text)
    cores = []
    while not cores or words.more():
        words.take(["core"] if len(cores) < MOST_CORES else [])
        cores.append(read_core(words))
    return tuple(cores)


def read_core(words):
    """Take the instructions of a core."""
    found = []
    if words.more() and not words.sees("core"):
        found.append(read_instruction(words))
    while found and words.more() and not words.sees("core"):
        words.take(["|"] if len(found) < MOST_INSTRUCTIONS else [])
        found.append(read_instruction(words))
    return tuple(found)


def read_instruction(words):
    """Take the words of an instruction."""
    word = words.take(["load", "store", "swap", "fence"])
    if word == "fence":
        return (word,)
    line = int(words.take(decimals(0, MOST_LINE)))
    if word == "load":
        return (word, line)
    return (word, line, int(words.take(decimals(1, MOST_VALUE))))
