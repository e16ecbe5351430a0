"""The forms of what the checker of orders takes: programs, observations and orders."""

from coheir.checkforms import has_parts, is_number
from coheir.errors import BadNumber, NotObservation, NotProgram


def demand_program(program):
    """Raise NotProgram if a tuple is no program."""
    if not isinstance(program, tuple) or not 1 <= len(program) <= 12:
        raise NotProgram("a program has 1 to 12 cores")
    for core in program:
        if not isinstance(core, tuple) or len(core) > 24:
            raise NotProgram("a core has at most 24 instructions")
        if not all(is_made_up(instruction) for instruction in core):
            raise NotProgram("an instruction of the program is none")


def is_made_up(instruction):
    """Tell whether a tuple is an instruction."""
    if instruction == ("fence",):
        return True
    if has_parts(instruction, 2):
        return instruction[0] == "load" and is_number(instruction[1], 0, 4)
    if not has_parts(instruction, 3) or instruction[0] not in ("store", "swap"):
        return False
    return is_number(instruction[1], 0, 4) and is_number(instruction[2], 1, 100)


def demand_observation(program, observation):
    """Raise NotObservation if a tuple is no observation of the program."""
    if not has_parts(observation, len(program)):
        raise NotObservation("an observation has a pair for each core")
    for core, seen in zip(program, observation):
        if not has_parts(seen, 2) or not is_number(seen[0], 0, len(core) + 1):
            raise NotObservation("a core has not made so many instructions")
        if not has_parts(seen[1], reads_among(core, seen[0])) or not all(type(value) is int for value in seen[1]):
            raise NotObservation("a core is not told so many integers")


def reads_among(core, count):
    """Return how many of the first instructions of a core are loads or swaps."""
    return len([True for instruction in core[:count] if instruction[0] in ("load", "swap")])


def demand_order(order):
    """Raise BadNumber if a string is none of the two orders."""
    if order not in ("plain", "buffered"):
        raise BadNumber("an order is plain or buffered here")
