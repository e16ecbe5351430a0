"""States with buffers, as the buffered and the loose order have them."""

from coheir.memories import BEGIN_MEMORY, is_memory, with_part
from coheir.plain import has_observation
from coheir.whole import is_tuple_of


def begin_waiting(program):
    """Return the state at the beginning: nothing waits."""
    return (BEGIN_MEMORY, ((0, (), ()),) * len(program))


def seen_in(cores):
    """Return the observation: what each core has made and was told."""
    return tuple([(made, told) for made, _, told in cores])


def is_whole_end(program, cores):
    """Tell whether all cores have made all of their instructions."""
    return [core[0] for core in cores] == [len(core) for core in program]


def has_form(program, state):
    """Tell whether a tuple is a state but for what waits."""
    if not is_tuple_of(state, 2) or not is_memory(state[0]) or not isinstance(state[1], tuple):
        return False
    if not all(is_tuple_of(core, 3) for core in state[1]):
        return False
    return has_observation(program, seen_in(state[1]))


def stores_open(core, made):
    """Return the stores behind the last swap or fence among the first made instructions."""
    found = []
    for instruction in core[:made]:
        if instruction[0] == "store":
            found.append(instruction[1:])
        elif instruction[0] != "load":
            found = []
    return found


def value_for(memory, waiting, line):
    """Return what a load of a line is told: the newest waiting store, or what memory has."""
    for where, value in waiting[::-1]:
        if where == line:
            return value
    return memory[line]


def behind_make(program, state, c):
    """Return the state behind the next instruction of a core, or None if it cannot be made."""
    memory, cores = state
    made, waiting, told = cores[c]
    if made == len(program[c]):
        return None
    instruction = program[c][made]
    word = instruction[0]
    if waiting and word in ("swap", "fence"):
        return None
    if word == "store":
        waiting = waiting + (instruction[1:],)
    elif word != "fence":
        told = told + (value_for(memory, waiting, instruction[1]),)
    if word == "swap":
        memory = with_part(memory, instruction[1], instruction[2])
    return (memory, with_part(cores, c, (made + 1, waiting, told)))


def behind_drain(state, c, at):
    """Return the state in which a waiting store of a core has left the buffer."""
    memory, cores = state
    made, waiting, told = cores[c]
    line, value = waiting[at]
    core = (made, waiting[:at] + waiting[at + 1:], told)
    return (with_part(memory, line, value), with_part(cores, c, core))
