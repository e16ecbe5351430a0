"""Programs: what the cores make, instruction by instruction."""

from coheir.errors import BadNumber, NotProgram
from coheir.whole import is_order, is_tuple_of, is_within

MOST_CORES = 12
MOST_INSTRUCTIONS = 24
MOST_LINE = 3
MOST_VALUE = 99


def is_program(program):
    """Tell whether a tuple is a program."""
    if not isinstance(program, tuple) or not 1 <= len(program) <= MOST_CORES:
        return False
    return all(is_core(core) for core in program)


def is_core(core):
    """Tell whether a tuple is a core."""
    if not isinstance(core, tuple) or len(core) > MOST_INSTRUCTIONS:
        return False
    return all(is_instruction(instruction) for instruction in core)


def is_instruction(instruction):
    """Tell whether a tuple is an instruction."""
    if is_tuple_of(instruction, 1):
        return instruction[0] == "fence"
    if is_tuple_of(instruction, 2):
        return instruction[0] == "load" and is_line(instruction[1])
    if not is_tuple_of(instruction, 3) or instruction[0] not in ("store", "swap"):
        return False
    return is_line(instruction[1]) and is_within(instruction[2], 1, MOST_VALUE)


def does_read(instruction):
    """Tell whether an instruction reads a line."""
    return instruction[0] in ("load", "swap")


def does_write(instruction):
    """Tell whether an instruction writes a line."""
    return instruction[0] in ("store", "swap")


def is_line(line):
    """Tell whether a value is the number of a line."""
    return is_within(line, 0, MOST_LINE)


def check_program(program):
    """Raise NotProgram if a tuple is no program."""
    if not is_program(program):
        raise NotProgram("this is no program")


def accesses(program, line):
    """Return the ascending list of the accesses of a line: pairs of a core and a number."""
    check_program(program)
    if not is_line(line):
        raise BadNumber("a line is from 0 to 3")
    found = []
    for c, core in enumerate(program):
        found.extend([(c, i) for i, instruction in enumerate(core) if instruction[1:2] == (line,)])
    return found


def lines_of(program):
    """Return the ascending list of the lines that have accesses."""
    check_program(program)
    return [line for line in range(MOST_LINE + 1) if accesses(program, line)]


def with_lines(program, lines):
    """Return the program with its lines renamed."""
    check_program(program)
    if not is_order(lines, MOST_LINE + 1):
        raise BadNumber("these are not the four lines, each once")
    return tuple(core_with_lines(core, lines) for core in program)


def core_with_lines(core, lines):
    """Return a core with its lines renamed."""
    return tuple(with_line(instruction, lines) for instruction in core)


def with_line(instruction, lines):
    """Return an instruction with its line renamed, if it has one."""
    if len(instruction) == 1:
        return instruction
    return (instruction[0], lines[instruction[1]]) + instruction[2:]


def with_cores(program, order):
    """Return the program with its cores told in another order."""
    check_program(program)
    if not is_order(order, len(program)):
        raise BadNumber("these are not the numbers of all cores, each once")
    return tuple(program[c] for c in order)


def beginning(program, counts):
    """Return the beginning of a program with so many instructions of each core."""
    check_program(program)
    if not is_tuple_of(counts, len(program)):
        raise BadNumber("there is one number for each core")
    for core, count in zip(program, counts):
        if not is_within(count, 0, len(core)):
            raise BadNumber("a core has not so many instructions")
    return tuple(core[:count] for core, count in zip(program, counts))
