"""Proofs that an observation is not buffered, looked at one condition after the other."""

from coheir.checkforms import has_parts
from coheir.checkmoves import is_place
from coheir.checkpapers import value_told


def is_proof(program, observation, proof):
    """Tell whether a proof is right for an observation."""
    if not has_parts(proof, 3) or not isinstance(proof[1], tuple) or not is_place(proof[2], program):
        return False
    word, chain, reader = proof
    if word == "nothing":
        return len(chain) == 0 and from_nothing(program, observation, reader)
    if word == "behind":
        return is_chain_of(program, observation, chain) and from_behind(program, observation, chain, reader)
    if word == "flag":
        return is_chain_of(program, observation, chain) and from_flag(program, observation, chain, reader)
    return False


def stores_on(program, line):
    """Return the list of the instructions of a program that store on a line, as pairs with their values."""
    found = []
    for c, core in enumerate(program):
        for i, instruction in enumerate(core):
            if len(instruction) == 3 and instruction[1] == line:
                found.append(((c, i), instruction[2]))
    return found


def from_nothing(program, observation, reader):
    """Tell whether the last load of the reader was told a value that comes from nowhere."""
    made = observation[reader][0]
    if made == 0 or program[reader][made - 1][0] != "load":
        return False
    value = value_told(program, observation, (reader, made - 1))
    stored = [other for _, other in stores_on(program, program[reader][made - 1][1])]
    return value != 0 and value not in stored


def is_chain_of(program, observation, chain):
    """Tell whether a tuple is a chain of all that store on the line 0."""
    left = {event: value for event, value in stores_on(program, 0)}
    values = [0]
    for entry in chain:
        if not has_parts(entry, 2) or not is_place(entry[0], program) or not is_place(entry[1], program[entry[0]]):
            return False
        c, i = entry
        if entry not in left or program[c][i][0] != "swap" or i >= observation[c][0]:
            return False
        if value_told(program, observation, entry) != values[-1] or left[entry] in values:
            return False
        values.append(left.pop(entry))
    return len(chain) > 0 and not left


def is_last_load(program, observation, c, back, line):
    """Tell whether an instruction of a core, counted back from its last made one, is a load of a line."""
    at = observation[c][0] - 1 - back
    return at >= 0 and program[c][at] == ("load", line)


def from_behind(program, observation, chain, reader):
    """Tell whether the core of the last swap loads another value behind it."""
    c, i = chain[-1]
    if c != reader or not is_last_load(program, observation, c, 0, 0):
        return False
    at = observation[c][0] - 1
    return at > i and value_told(program, observation, (c, at)) != program[c][i][2]


def from_flag(program, observation, chain, reader):
    """Tell whether the reader loads the flag of the core of the last swap, and then another value."""
    c, i = chain[-1]
    flag = (c, i + 1)
    if c == reader or i + 1 >= observation[c][0] or program[c][i + 1][0] != "store":
        return False
    if [event for event, _ in stores_on(program, 1)] != [flag]:
        return False
    if not is_last_load(program, observation, reader, 1, 1) or not is_last_load(program, observation, reader, 0, 0):
        return False
    at = observation[reader][0] - 1
    if value_told(program, observation, (reader, at - 1)) != program[c][i + 1][2]:
        return False
    return value_told(program, observation, (reader, at)) != program[c][i][2]
