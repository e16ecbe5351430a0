"""Runs of orders and of machines, made move by move."""

from coheir.checkmoves import behind_store, is_place, right_of, state_ahead, state_behind


class Cores:
    """What the cores of a program have made and were told, and what waits in their buffers."""

    def __init__(self, program):
        self.program = program
        self.made = [0] * len(program)
        self.waiting = [[] for _ in program]
        self.told = [[] for _ in program]

    def coming(self, c):
        """Return the next instruction of a core, or None."""
        return self.program[c][self.made[c]] if self.made[c] < len(self.program[c]) else None

    def newest(self, c, line):
        """Return the value of the newest waiting store of a line in a core, or None."""
        values = [value for where, value in self.waiting[c] if where == line]
        return values[-1] if values else None

    def sight(self):
        """Return the observation."""
        return tuple([(made, tuple(told)) for made, told in zip(self.made, self.told)])


def is_for_core(program, move):
    """Tell whether a move is made or drained by a core of the program."""
    return len(move) == 2 and move[0] in ("make", "drain") and is_place(move[1], program)


def seen_by_order(program, moves, order):
    """Return the observation to which a run of an order leads, or None if a move is not allowed."""
    cores = Cores(program)
    memory = [0, 0, 0, 0]
    for move in moves:
        if not is_for_core(program, move):
            return None
        if move[0] == "drain":
            done = has_drained(cores, memory, move[1])
        else:
            done = has_made(cores, memory, move[1], order)
        if not done:
            return None
    return cores.sight()


def has_drained(cores, memory, c):
    """Let the oldest waiting store of a core come to memory, and tell whether there was one."""
    if not cores.waiting[c]:
        return False
    line, value = cores.waiting[c].pop(0)
    memory[line] = value
    return True


def has_made(cores, memory, c, order):
    """Make the next instruction of a core, and tell whether it was allowed."""
    instruction = cores.coming(c)
    if instruction is None:
        return False
    word = instruction[0]
    if word in ("swap", "fence") and cores.waiting[c]:
        return False
    cores.made[c] += 1
    if word in ("load", "swap"):
        own = cores.newest(c, instruction[1])
        cores.told[c].append(memory[instruction[1]] if own is None else own)
    if word == "store" and order == "buffered":
        cores.waiting[c].append(instruction[1:])
    elif word in ("store", "swap"):
        memory[instruction[1]] = instruction[2]
    return True


def seen_by_machine(table, program, moves):
    """Return the sight of a run of a machine, or None if a move cannot be made."""
    return seen_by_plays(table, program, moves, state_ahead(len(program)), state_behind)


def seen_by_plays(table, program, moves, ahead, behind):
    """Return the sight of a run of a machine, or None.

    The plays of its lines begin with the state `ahead`, and their rows are made by `behind`.
    """
    cores = Cores(program)
    lines = [ahead] * 4
    for move in moves:
        if is_for_core(program, move):
            done = has_stepped(table, cores, lines, move)
        else:
            done = has_rowed(table, lines, move, behind)
        if not done:
            return None
    return cores.sight()


def has_rowed(table, lines, move, behind):
    """Make a row in the play of a line, and tell whether it was allowed."""
    if len(move) != 5 or move[0] != "row" or not is_place(move[1], lines):
        return False
    return has_come(lines, move[1], behind(table, lines[move[1]], ("row",) + move[2:]))


def has_stored(table, lines, line, c, value):
    """Let a cache store a value in the play of a line, and tell whether it was allowed."""
    return has_come(lines, line, behind_store(table, lines[line], ("store", c, value)))


def has_come(lines, line, state):
    """Let the play of a line come to a state, and tell whether there is one."""
    if state is None:
        return False
    lines[line] = state
    return True


def has_stepped(table, cores, lines, move):
    """Let a core of a machine make its next instruction or drain a store, and tell whether it was allowed."""
    word, c = move
    if word == "drain":
        if not cores.waiting[c]:
            return False
        line, value = cores.waiting[c].pop(0)
        return has_stored(table, lines, line, c, value)
    instruction = cores.coming(c)
    if instruction is None:
        return False
    if instruction[0] in ("swap", "fence") and cores.waiting[c]:
        return False
    cores.made[c] += 1
    if instruction[0] == "store":
        cores.waiting[c].append(instruction[1:])
    return instruction[0] not in ("load", "swap") or has_read(table, cores, lines, c, instruction)


def has_read(table, cores, lines, c, instruction):
    """Let a core be told the value of a line, store that of a swap, and tell whether its rights allow it."""
    line = instruction[1]
    own = cores.newest(c, line)
    if own is None and right_of(table, lines[line], c) == 0:
        return False
    cores.told[c].append(lines[line][2][c][1] if own is None else own)
    return instruction[0] == "load" or has_stored(table, lines, line, c, instruction[2])
