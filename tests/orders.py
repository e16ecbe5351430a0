"""Programs made by chance, and a search of the three orders that the tests make themselves."""

import copy

STORES = (("store", 0, 1), ("load", 1)), (("store", 1, 1), ("load", 0))
MESSAGE = (("store", 0, 1), ("store", 1, 1)), (("load", 1), ("load", 0))
BOTH_ZERO = ((2, (0,)), (2, (0,)))
ORDERS = ("plain", "buffered", "loose")

TWELVE = ((("load", 0),), (("store", 0, 99),)) + ((),) * 10


def random_program(source, most_cores=3, most_instructions=3, lines=2, values=2):
    """Return a program made by chance."""
    cores = []
    for _ in range(source.randint(1, most_cores)):
        core = []
        for _ in range(source.randint(0, most_instructions)):
            word = source.choice(("load", "load", "store", "store", "store", "swap", "fence"))
            line, value = source.randrange(lines), source.randint(1, values)
            core.append({"load": ("load", line), "fence": ("fence",)}.get(word, (word, line, value)))
        cores.append(tuple(core))
    return tuple(cores)


def program_beginning(program):
    """Return a state that changes: memory, and for each core its made ones, its buffer and what it was told."""
    return {"memory": [0, 0, 0, 0], "made": [0] * len(program),
            "buffer": [[] for _ in program], "told": [[] for _ in program]}


def moves_of(program, state, order):
    """Return all moves that the order has in a state, those of a core in the order of the interface."""
    moves = []
    for c, core in enumerate(program):
        if state["made"][c] < len(core):
            if core[state["made"][c]][0] in ("load", "store") or not state["buffer"][c]:
                moves.append(("make", c))
        if order == "buffered" and state["buffer"][c]:
            moves.append(("drain", c))
        if order == "loose":
            moves.extend(("drain", c, line) for line in range(4) if any(s[0] == line for s in state["buffer"][c]))
    return moves


def go(program, state, move, order):
    """Change a state by a move that is allowed."""
    c = move[1]
    buffer = state["buffer"][c]
    if move[0] == "drain":
        at = 0 if len(move) == 2 else [line for line, _ in buffer].index(move[2])
        line, value = buffer.pop(at)
        state["memory"][line] = value
        return
    instruction = program[c][state["made"][c]]
    state["made"][c] += 1
    if instruction[0] in ("load", "swap"):
        seen = state["memory"][instruction[1]]
        for line, value in buffer:
            seen = value if line == instruction[1] else seen
        state["told"][c].append(seen)
    if instruction[0] == "swap" or (instruction[0] == "store" and order == "plain"):
        state["memory"][instruction[1]] = instruction[2]
    elif instruction[0] == "store":
        buffer.append((instruction[1], instruction[2]))


def as_tuple(state, order):
    """Return a state in the form of the document."""
    cores = []
    for made, buffer, told in zip(state["made"], state["buffer"], state["told"]):
        cores.append((made, tuple(told)) if order == "plain" else (made, tuple(buffer), tuple(told)))
    return (tuple(state["memory"]), tuple(cores))


def seen(state):
    """Return the observation of a state in the form of the document."""
    return tuple((core[0], core[-1]) for core in state[1])


def all_states(program, order):
    """Return the set of all states that can come, by going deep first."""
    reached = set()
    left = [program_beginning(program)]
    while left:
        state = left.pop()
        told = as_tuple(state, order)
        if told not in reached:
            reached.add(told)
            for move in moves_of(program, state, order):
                behind = copy.deepcopy(state)
                go(program, behind, move, order)
                left.append(behind)
    return reached


def whole_ones(program, states):
    """Return the ascending list of the whole observations of states."""
    made = [len(core) for core in program]
    return sorted({seen(state) for state in states if [core[0] for core in state[1]] == made})


def end_of(program, moves, order):
    """Return the state behind a run, or None if a move is not allowed."""
    state = program_beginning(program)
    for move in moves:
        if move not in moves_of(program, state, order):
            return None
        go(program, state, move, order)
    return as_tuple(state, order)


def random_run(source, program, order, most=30):
    """Return a run that is made by chance."""
    state = program_beginning(program)
    moves = []
    while len(moves) < most:
        allowed = moves_of(program, state, order)
        if not allowed:
            break
        moves.append(source.choice(allowed))
        go(program, state, moves[-1], order)
    return moves


# Programs on lines of their own: the numbers of their states are multiplied, 3 * 59 * 113 is 20001.
NEARLY = {
    "plain": (
        (("swap", 0, 2), ("load", 0), ("store", 1, 2), ("store", 1, 1)),
        (("load", 1), ("store", 0, 2), ("load", 0), ("swap", 0, 1)),
        (("swap", 2, 2), ("swap", 3, 1), ("store", 3, 2), ("swap", 3, 1)),
        (("load", 2), ("load", 2), ("load", 3), ("swap", 3, 2)),
    ),
    "buffered": (
        (("swap", 0, 2), ("load", 1), ("load", 1), ("store", 0, 2)),
        (("swap", 0, 1), ("fence",), ("store", 0, 1)),
        (("store", 3, 2), ("swap", 3, 1), ("fence",), ("fence",)),
        (("store", 3, 2), ("store", 3, 2), ("store", 3, 1), ("load", 2)),
    ),
    "loose": (
        (("swap", 0, 2), ("load", 1), ("load", 1), ("store", 0, 2)),
        (("swap", 0, 1), ("fence",), ("store", 0, 1)),
        (("store", 2, 1), ("store", 3, 2), ("load", 3), ("store", 2, 2)),
        (("store", 2, 1), ("store", 2, 2)),
    ),
}
FENCE = ("fence",)


def with_most_states():
    """Return a program that has 20000 states in each order."""
    return ((FENCE,),) * 5 + ((FENCE,) * 4,) * 4


def with_more_states(order):
    """Return a program that has 20001 states in an order."""
    return NEARLY[order] + ((FENCE, FENCE),)


def with_far_more_states():
    """Return a program with twelve full cores."""
    return tuple(tuple(("store", (i + c) % 4, i + c + 1) for i in range(24)) for c in range(12))
