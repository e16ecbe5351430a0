"""Proofs that an observation is not buffered."""

from coheir.programs import does_read, does_write
from coheir.whole import is_tuple_of, is_within


def is_right_proof(program, observation, proof):
    """Tell whether a proof is right for an observation of a program."""
    if not is_tuple_of(proof, 3) or not isinstance(proof[1], tuple) or not is_within(proof[2], 0, len(program) - 1):
        return False
    word, chain, reader = proof
    if word == "nothing":
        return chain == () and proves_nothing(program, observation, reader)
    if word not in ("behind", "flag") or not is_chain(program, observation, chain):
        return False
    if word == "behind":
        return proves_behind(program, observation, chain, reader)
    return proves_flag(program, observation, chain, reader)


def told_to(program, observation, event):
    """Return what a made instruction that reads was told."""
    c, i = event
    return observation[c][1][sum(1 for instruction in program[c][:i] if does_read(instruction))]


def writers_of(program, line):
    """Return the ascending list of the instructions of a program that store on a line, swaps with them."""
    return [
        (c, i) for c, core in enumerate(program) for i, instruction in enumerate(core)
        if does_write(instruction) and instruction[1] == line
    ]


def value_of(program, event):
    """Return the value that an instruction stores."""
    return program[event[0]][event[1]][2]


def last_loads(program, observation, c, lines):
    """Return what the last made instructions of a core were told, if they are loads of these lines, or None."""
    made, told = observation[c]
    wanted = tuple([("load", line) for line in lines])
    if made < len(wanted) or program[c][made - len(wanted):made] != wanted:
        return None
    return told[len(told) - len(wanted):]


def proves_nothing(program, observation, reader):
    """Tell whether the last load of the reader was told a value that no instruction stores on its line."""
    made, _ = observation[reader]
    if made == 0 or program[reader][made - 1][0] != "load":
        return False
    line = program[reader][made - 1][1]
    value = observation[reader][1][-1]
    return value != 0 and all(value_of(program, event) != value for event in writers_of(program, line))


def is_chain(program, observation, chain):
    """Tell whether a tuple has all that store on the line 0: made swaps, each told the value of the one before."""
    writers = writers_of(program, 0)
    if not writers or not all(is_event(program, event) for event in chain) or sorted(chain) != writers:
        return False
    if not all(program[c][i][0] == "swap" and i < observation[c][0] for c, i in chain):
        return False
    values = [value_of(program, event) for event in chain]
    told = [told_to(program, observation, event) for event in chain]
    return len(set(values)) == len(values) and told == [0] + values[:-1]


def is_event(program, event):
    """Tell whether a value is a pair of a core and the number of one of its instructions."""
    if not is_tuple_of(event, 2) or not is_within(event[0], 0, len(program) - 1):
        return False
    return is_within(event[1], 0, len(program[event[0]]) - 1)


def proves_behind(program, observation, chain, reader):
    """Tell whether the core of the last swap was told another value by a load behind it."""
    told = last_loads(program, observation, reader, (0,))
    return chain[-1][0] == reader and told is not None and told[0] != value_of(program, chain[-1])


def proves_flag(program, observation, chain, reader):
    """Tell whether the reader was told the flag behind the last swap, and then another value."""
    c, i = chain[-1]
    if c == reader or i + 1 >= observation[c][0]:
        return False
    if program[c][i + 1][0] != "store" or writers_of(program, 1) != [(c, i + 1)]:
        return False
    told = last_loads(program, observation, reader, (1, 0))
    if told is None or told[0] != value_of(program, (c, i + 1)):
        return False
    return told[1] != value_of(program, chain[-1])
