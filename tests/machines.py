"""A machine that the tests make themselves: lists that change, one part after the other."""

BEHIND = (  # one cache may read its line anew from the home, which has an old copy
    (0, 2), 1, ((0, 0, -1, 0, 1, -1, (0, 1), "home", "keep"), (0, 1, -1, 0, 1, -1, (0, 1), "home", "keep")))
NOTHING = ((0, 1), 1, ((0, 0, -1, 0, 1, -1, (0, 1), "keep", "keep"),))
STUCK = ((0, 2), 1, ((0, 0, -1, 0, 1, -1, (0, 1), "home", "keep"),))  # no value ever leaves a cache


def counting(count):
    """Return a table that needs so many caches, 2 to 24, for a load of no value: the first one meets each other one."""
    same = tuple(range(8))
    rows = [(0, 0, -1, 1, 2, -1, same, "keep", "keep")]
    state, home = 2, 1
    for left in range(count - 2, -1, -1):
        target = 1 if home == 5 else home + 1
        behind = 7 if left == 0 else (state + 1 if home == 5 else state)
        rows.append((home, state, 0, target, behind, 1, same, "keep", "keep"))
        state, home = behind, target
    return ((0, 0, 0, 0, 0, 0, 0, 1), 6, tuple(rows))


def counting_to_flag(count):
    """Return a table in which the first cache of `counting` may write at last, and another one keeps its copy."""
    _, homes, rows = counting(count)
    last = rows[-1][:7] + ("home", "keep")
    reader = (last[3], 0, -1, last[3], 6, -1, last[6], "home", "keep")
    return ((0, 0, 0, 0, 0, 0, 1, 2), homes, rows[:-1] + (last, reader))


def machine_begin(n):
    return {"lines": [{"home": 0, "value": 0, "states": [0] * n, "copies": [-1] * n} for _ in range(4)],
            "made": [0] * n, "buffer": [[] for _ in range(n)], "told": [[] for _ in range(n)]}


def can_row(table, line, r, k, j):
    states = line["states"]
    if not (0 <= r < len(table[2]) and 0 <= k < len(states)):
        return False
    home, own, other = table[2][r][:3]
    if home != line["home"] or states[k] != own:
        return False
    return j == -1 if other == -1 else (0 <= j < len(states) and j != k and states[j] == other)


def make_row(table, line, r, k, j):
    _, _, _, home2, own2, other2, others, source, back = table[2][r]
    copies = {"home": line["value"], "own": line["copies"][k], "other": line["copies"][j] if j != -1 else None}
    line["states"] = [others[state] for state in line["states"]]
    line["states"][k] = own2
    if j != -1:
        line["states"][j] = other2
    line["home"] = home2
    if source != "keep":
        line["copies"][k] = copies[source]
    if back != "keep":
        line["value"] = copies[back]


def right(table, state, line, c):
    return table[0][state["lines"][line]["states"][c]]


def step(table, program, state, move):
    """Change the state by a move, or tell that it cannot be made."""
    if move[0] == "row":
        if len(move) != 5 or not 0 <= move[1] < 4 or not can_row(table, state["lines"][move[1]], *move[2:]):
            return False
        make_row(table, state["lines"][move[1]], *move[2:])
        return True
    if len(move) != 2 or move[0] not in ("make", "drain") or not 0 <= move[1] < len(program):
        return False
    c = move[1]
    buffer = state["buffer"][c]
    if move[0] == "drain":
        if not buffer or right(table, state, buffer[0][0], c) < 2:
            return False
        line, value = buffer.pop(0)
        state["lines"][line]["copies"][c] = value
        return True
    if state["made"][c] == len(program[c]):
        return False
    word, *rest = program[c][state["made"][c]]
    if word in ("swap", "fence") and buffer:
        return False
    if word in ("load", "swap"):
        own = [value for line, value in buffer if line == rest[0]]
        if not own and right(table, state, rest[0], c) < (1 if word == "load" else 2):
            return False
        state["told"][c].append(own[-1] if own else state["lines"][rest[0]]["copies"][c])
    if word == "swap":
        state["lines"][rest[0]]["copies"][c] = rest[1]
    if word == "store":
        buffer.append(tuple(rest))
    state["made"][c] += 1
    return True


def as_tuple(state):
    lines = tuple((line["home"], line["value"], tuple(zip(line["states"], line["copies"]))) for line in state["lines"])
    return (lines, tuple((made, tuple(buffer), tuple(told))
                         for made, buffer, told in zip(state["made"], state["buffer"], state["told"])))


def all_moves(table, program):
    """Return all moves that there could be, in the order of the interface."""
    n = len(program)
    moves = [("make", c) for c in range(n)] + [("drain", c) for c in range(n)]
    for line in range(4):
        moves += [("row", line, r, k, j) for r in range(len(table[2])) for k in range(n) for j in range(-1, n)]
    return moves


def state_behind(table, program, moves):
    """Return the state behind a run, or the index of the first move that cannot be made."""
    state = machine_begin(len(program))
    for at, move in enumerate(moves):
        if not step(table, program, state, move):
            return at
    return as_tuple(state)


def seen(state):
    return tuple((made, told) for made, _, told in state[1])


def random_moves(source, table, program, most):
    """Return a run by chance; cores move oftener than rows."""
    moves = []
    state = machine_begin(len(program))
    for _ in range(most):
        tried = all_moves(table, program)
        cores = [move for move in tried if move[0] != "row"]
        rows = [move for move in tried if move[0] == "row" and can_row(table, state["lines"][move[1]], *move[2:])]
        move = source.choice(cores if not rows or source.random() < 0.5 else rows)
        if step(table, program, state, move):
            moves.append(move)
    return moves


def bad_part(program, moves):
    """Return the moves of the line 0 as those of a play, and the cores that swap, in order."""
    bad, swaps = [], []
    made = [0] * len(program)
    for move in moves:
        if move[:2] == ("row", 0):
            bad.append(("row",) + move[2:])
        if move[0] == "make":
            instruction = program[move[1]][made[move[1]]]
            made[move[1]] += 1
            if instruction[0] == "swap":
                swaps.append(move[1])
                bad.append(("store", move[1], instruction[2]))
                assert instruction == ("swap", 0, len(swaps)), instruction
    return bad, swaps
