"""The split machine: cores with buffers, and for each line a play of a split table."""

from coheir.buffers import seen_in
from coheir.machine import begin_lines, behind_by, moves_by
from coheir.programs import check_program
from coheir.runs import states_by
from coheir.splitplay import split_begin, split_behind, split_rows_in
from coheir.splittables import check_split_table


def begin_split_machine(table, program):
    """Return the state at the beginning."""
    check_split_table(table)
    check_program(program)
    return begin_lines(program, split_begin(len(program)))


def split_machine_moves(table, program, state):
    """Return the list of all moves that can be made."""
    check_split_table(table)
    check_program(program)
    return moves_by(table, program, state, split_rows_in)


def split_machine_states_on(table, program, moves):
    """Return the list of the states on a run from the beginning, both ends with it."""
    begin = begin_split_machine(table, program)
    return states_by(begin, moves, lambda state, move: behind_by(table, program, state, move, split_behind))


def split_machine_play(table, program, moves):
    """Return the state to which a run leads."""
    return split_machine_states_on(table, program, moves)[-1]


def split_sight(table, program, moves):
    """Return the observation of a run."""
    return seen_in(split_machine_play(table, program, moves)[1])
