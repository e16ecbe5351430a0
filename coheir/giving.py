"""Tables that give caches their rights, and runs of machines made from buffered runs."""

from coheir.buffered import buffered_behind
from coheir.errors import BadMove, BadNumber, TooLarge
from coheir.lineplay import has_right, line_begin, line_behind, rows_in
from coheir.machine import begin_machine, machine_behind, right_needed
from coheir.programs import check_program
from coheir.tables import check_table
from coheir.whole import is_within

MOST_GIVEN = 4


def gives(table, n):
    """Tell whether a table gives n caches their rights.

    All caches are alike, so it is enough to look at the cache 0, and the order of the others
    does not matter.
    """
    check_table(table)
    if not is_within(n, 1, MOST_GIVEN):
        raise BadNumber(f"there are 1 to {MOST_GIVEN} caches here")
    ahead = states_ahead(table, without_copies(line_begin(n)))
    reached = [state for state in ahead if has_right(table, state, 0, 2)]
    known = {state: True for state in reached}
    while reached:
        state = reached.pop()
        for other in ahead[state]:
            if other not in known:
                known[other] = True
                reached.append(other)
    return len(known) == len(ahead)


def states_ahead(table, begin):
    """Return a dict from each state that comes by rows to the list of those from which one row leads to it."""
    ahead = {begin: []}
    waiting = [begin]
    while waiting:
        state = waiting.pop()
        for move in rows_in(table, state):
            behind = without_copies(line_behind(table, state, move))
            if behind not in ahead:
                ahead[behind] = []
                waiting.append(behind)
            ahead[behind].append(state)
    return ahead


def without_copies(state):
    """Return a state with no copies, in which all caches but the first one stand in one order."""
    home, _, caches = state
    found = [(at, 0) for at, _ in caches]
    return (home, 0, tuple(found[:1] + sorted(found[1:])))


def realized(table, program, moves):
    """Return a run of the machine whose shadow is a list of moves, with as few rows as possible ahead of each."""
    check_table(table)
    check_program(program)
    if len(program) > MOST_GIVEN:
        raise TooLarge(f"there are at most {MOST_GIVEN} cores here")
    state = begin_machine(table, program)
    run = []
    for at, move in enumerate(moves):
        rows = rows_ahead(table, program, state, move)
        if rows is None:
            raise BadMove(at)
        for step in rows + [move]:
            state = machine_behind(table, program, state, step)
            run.append(step)
    return run


def rows_ahead(table, program, state, move):
    """Return rows of the machine that lead to the right that a move needs, or None if it cannot be made."""
    lines, cores = state
    # Which moves are allowed does not depend on what memory has.
    if buffered_behind(program, ((0, 0, 0, 0), cores), move) is None:
        return None
    line, right = right_needed(program, cores, move)
    rows = rows_to_right(table, lines[line], move[1], right)
    return None if rows is None else [("row", line) + row[1:] for row in rows]


def rows_to_right(table, state, k, right):
    """Return as few rows as possible that lead to a state in which the cache k has a right, or None."""
    home, _, caches = state
    begin = (home, 0, tuple([(at, 0) for at, _ in caches]))
    ways = {begin: []}
    layer = [begin]
    while layer:
        reached = []
        for one in layer:
            if has_right(table, one, k, right):
                return ways[one]
            for move in rows_in(table, one):
                behind = line_behind(table, one, move)
                if behind not in ways:
                    ways[behind] = ways[one] + [move]
                    reached.append(behind)
        layer = reached
    return None
