"""The whole machine: cores with buffers, and for each line a play of a table."""

from coheir.buffered import buffered_behind
from coheir.buffers import begin_waiting, seen_in
from coheir.lineplay import behind_store, has_right, line_begin, line_behind, rows_in
from coheir.memories import BEGIN_MEMORY, with_part
from coheir.programs import check_program, is_line
from coheir.runs import states_by
from coheir.search import is_move
from coheir.tables import check_table


def begin_machine(table, program):
    """Return the state at the beginning."""
    check_table(table)
    check_program(program)
    return begin_lines(program, line_begin(len(program)))


def begin_lines(program, play):
    """Return the state at the beginning, whose lines all have this state of a play."""
    return ((play,) * len(BEGIN_MEMORY), begin_waiting(program)[1])


def machine_behind(table, program, state, move):
    """Return the state behind a move, or None if it cannot be made."""
    return behind_by(table, program, state, move, line_behind)


def behind_by(table, program, state, move, line_move):
    """Return the state behind a move, or None; `line_move` makes the rows in the play of a line."""
    if len(move) == 5 and move[0] == "row" and is_line(move[1]):
        lines, cores = state
        behind = line_move(table, lines[move[1]], ("row",) + move[2:])
        return None if behind is None else (with_part(lines, move[1], behind), cores)
    if is_move(program, move, "make", 2) or is_move(program, move, "drain", 2):
        return behind_core(table, program, state, move)
    return None


def behind_core(table, program, state, move):
    """Return the state behind a move of a core, or None.

    For a core its own copies stand in the place of memory.
    """
    lines, cores = state
    c = move[1]
    copies = tuple([line[2][c][1] for line in lines])
    behind = buffered_behind(program, (copies, cores), move)
    if behind is None:
        return None
    line, right = right_needed(program, cores, move)
    if not has_right(table, lines[line], c, right):
        return None
    if right == 2:
        lines = with_part(lines, line, behind_store(table, lines[line], ("store", c, behind[0][line])))
    return (lines, behind[1])


def right_needed(program, cores, move):
    """Return the line for which an allowed move of a core needs a right, and the right, 0 for none."""
    made, waiting, _ = cores[move[1]]
    if move[0] == "drain":
        return (waiting[0][0], 2)
    instruction = program[move[1]][made]
    if instruction[0] == "swap":
        return (instruction[1], 2)
    if instruction[0] == "load" and all(line != instruction[1] for line, _ in waiting):
        return (instruction[1], 1)
    return (0, 0)


def machine_moves(table, program, state):
    """Return the list of all moves that can be made."""
    check_table(table)
    check_program(program)
    return moves_by(table, program, state, rows_in)


def moves_by(table, program, state, line_rows):
    """Return the list of all moves that can be made; `line_rows` lists the rows in the play of a line."""
    told = [(word, c) for word in ("make", "drain") for c in range(len(program))]
    found = [move for move in told if behind_core(table, program, state, move) is not None]
    for line, play in enumerate(state[0]):
        found.extend([("row", line) + move[1:] for move in line_rows(table, play)])
    return found


def machine_states_on(table, program, moves):
    """Return the list of the states on a run from the beginning, both ends with it."""
    begin = begin_machine(table, program)
    return states_by(begin, moves, lambda state, move: machine_behind(table, program, state, move))


def machine_play(table, program, moves):
    """Return the state to which a run leads."""
    return machine_states_on(table, program, moves)[-1]


def sight(table, program, moves):
    """Return the observation of a run."""
    return seen_in(machine_play(table, program, moves)[1])


def shadow(moves):
    """Return the list of the moves that are no rows."""
    return [move for move in moves if move[0] != "row"]
