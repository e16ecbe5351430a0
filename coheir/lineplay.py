"""Plays of one line with numbered caches."""

from coheir.copies import copies_behind
from coheir.errors import BadNumber, NotState
from coheir.runs import states_by
from coheir.tables import check_table
from coheir.whole import is_tuple_of, is_whole, is_within


def line_begin(n):
    """Return the state at the beginning with n caches."""
    return (0, 0, ((0, -1),) * n)


def is_state(table, state):
    """Tell whether a tuple is a state of the table."""
    check_table(table)
    return has_state(table, state)


def has_state(table, state):
    """Tell whether a tuple is a state of what is a table."""
    rights, homes, _ = table
    if not is_tuple_of(state, 3):
        return False
    home, value, caches = state
    if not is_within(home, 0, homes - 1) or not is_copy(value) or not isinstance(caches, tuple):
        return False
    return all(is_cache(cache, len(rights)) for cache in caches)


def is_copy(value):
    """Tell whether a value can be a copy of a line."""
    return is_whole(value) and value >= -1


def is_cache(cache, size):
    """Tell whether a tuple is the state and the copy of a cache."""
    return is_tuple_of(cache, 2) and is_within(cache[0], 0, size - 1) and is_copy(cache[1])


def check_state(table, state):
    """Raise NotState if a tuple is no state of the table."""
    if not is_state(table, state):
        raise NotState("this is no state of the table")


def line_behind(table, state, move):
    """Return the state behind a move, or None if it is not allowed."""
    if len(move) == 4 and move[0] == "row":
        return behind_row(table, state, move)
    return behind_access(table, state, move)


def behind_access(table, state, move):
    """Return the state behind a load or a store, or None."""
    if len(move) == 3 and move[0] == "store":
        return behind_store(table, state, move)
    if len(move) == 2 and move[0] == "load":
        return state if has_right(table, state, move[1], 1) else None
    return None


def has_right(table, state, k, least):
    """Tell whether k is a cache whose state has at least this right."""
    caches = state[2]
    return is_within(k, 0, len(caches) - 1) and table[0][caches[k][0]] >= least


def behind_store(table, state, move):
    """Return the state behind a store, or None."""
    _, k, stored = move
    if not has_right(table, state, k, 2) or not is_whole(stored) or stored < 1:
        return None
    caches = state[2]
    return state[:2] + (caches[:k] + ((caches[k][0], stored),) + caches[k + 1:],) + state[3:]


def behind_row(table, state, move):
    """Return the state behind a row, or None."""
    _, number, k, j = move
    if not is_within(number, 0, len(table[2]) - 1) or not can_make(table[2][number], state, k, j):
        return None
    row = table[2][number]
    home2, own2, other2, others = row[3:7]
    _, value, caches = state
    copy_of_other = -1 if j == -1 else caches[j][1]
    value2, copy2 = copies_behind(row, value, caches[k][1], copy_of_other)
    found = [(others[at], copy) for at, copy in caches]
    found[k] = (own2, copy2)
    if j != -1:
        found[j] = (other2, copy_of_other)
    return (home2, value2, tuple(found))


def can_make(row, state, k, j):
    """Tell whether the cache k can make a row with the partner j, -1 for none."""
    home, _, caches = state
    most = len(caches) - 1
    if row[0] != home or not is_within(k, 0, most) or caches[k][0] != row[1]:
        return False
    if row[2] == -1:
        return is_within(j, -1, -1)
    return is_within(j, 0, most) and j != k and caches[j][0] == row[2]


def moves_in(table, state):
    """Return the list of the moves of rows and loads that are allowed."""
    check_state(table, state)
    return rows_in(table, state) + loads_in(table, state)


def loads_in(table, state):
    """Return the list of the loads that are allowed."""
    return [("load", k) for k in range(len(state[2])) if has_right(table, state, k, 1)]


def rows_in(table, state):
    """Return the list of the moves of rows that are allowed."""
    count = len(state[2])
    found = []
    for number, row in enumerate(table[2]):
        partners = [-1] if row[2] == -1 else list(range(count))
        for k in range(count):
            found.extend([("row", number, k, j) for j in partners if can_make(row, state, k, j)])
    return found


def states_on(table, n, moves):
    """Return the list of the states of a play, both ends with it."""
    check_table(table)
    if n < 0:
        raise BadNumber("there are no fewer than 0 caches")
    return states_by(line_begin(n), moves, lambda state, move: line_behind(table, state, move))


def play(table, n, moves):
    """Return the state to which a play leads."""
    return states_on(table, n, moves)[-1]


def loads_on(table, n, moves):
    """Return the list of the index, the cache and the told value of each load."""
    return told_by_loads(states_on(table, n, moves), moves)


def told_by_loads(states, moves):
    """Return the list of the index, the cache and the told value of each load of a play with these states."""
    loads = [(at, move[1]) for at, move in enumerate(moves) if move[0] == "load"]
    return [(at, k, states[at][2][k][1]) for at, k in loads]
