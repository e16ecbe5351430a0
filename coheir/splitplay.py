"""Plays of split tables, with numbered caches and with messages under way."""

from coheir.copies import split_copies_behind
from coheir.errors import BadNumber, NotState
from coheir.lineplay import behind_access, is_cache, is_copy, line_begin, loads_in, told_by_loads
from coheir.runs import states_by
from coheir.splittables import check_split_table
from coheir.whole import is_tuple_of, is_within


def split_begin(n):
    """Return the state at the beginning with n caches."""
    return line_begin(n) + ((),)


def is_split_state(table, state):
    """Tell whether a tuple is a state of the split table."""
    check_split_table(table)
    rights, homes, messages, _ = table
    if not is_tuple_of(state, 4):
        return False
    home, value, caches, net = state
    if not is_within(home, 0, homes - 1) or not is_copy(value) or not isinstance(caches, tuple):
        return False
    if not isinstance(net, tuple) or not all(is_cache(cache, len(rights)) for cache in caches):
        return False
    # A message has the form of a cache: a number and a copy.
    return all(is_cache(message, messages) for message in net) and sorted(net) == list(net)


def check_split_state(table, state):
    """Raise NotState if a tuple is no state of the split table."""
    if not is_split_state(table, state):
        raise NotState("this is no state of the split table")


def split_behind(table, state, move):
    """Return the state behind a move, or None if it is not allowed."""
    if len(move) == 4 and move[0] == "row":
        return behind_split_row(table, state, move)
    return behind_access(table, state, move)


def behind_split_row(table, state, move):
    """Return the state behind a row, or None."""
    _, number, k, i = move
    rows = table[3]
    if not is_within(number, 0, len(rows) - 1) or not can_make_split(rows[number], state, k, i):
        return None
    row = rows[number]
    home2, own2, others, sends = row[3:7]
    home, value, caches, net = state
    own = -1 if k == -1 else caches[k][1]
    got = -1 if i == -1 else net[i][1]
    value2, copy2, sent = split_copies_behind(row, value, own, got)
    found = [(others[at], copy) for at, copy in caches]
    if k != -1:
        found[k] = (own2, copy2)
    left = [message for at, message in enumerate(net) if at != i]
    news = [(kind, copy) for (kind, _), copy in zip(sends, sent)]
    return (home if home2 == -1 else home2, value2, tuple(found), tuple(sorted(left + news)))


def can_make_split(row, state, k, i):
    """Tell whether the cache k, -1 for none, can make a row with the message at the index i, -1 for none."""
    home, _, caches, net = state
    return row[0] in (-1, home) and is_place_of(k, row[1], caches) and is_place_of(i, row[2], net)


def is_place_of(place, wanted, entries):
    """Tell whether an entry with the wanted first part stands at a place; for -1, whether the place is -1."""
    if wanted == -1:
        return is_within(place, -1, -1)
    return is_within(place, 0, len(entries) - 1) and entries[place][0] == wanted


def places_of(wanted, entries):
    """Return the list of the places of the entries with the wanted first part, [-1] for -1."""
    if wanted == -1:
        return [-1]
    return [place for place, entry in enumerate(entries) if entry[0] == wanted]


def split_moves_in(table, state):
    """Return the list of the moves of rows and loads that are allowed."""
    check_split_state(table, state)
    return split_rows_in(table, state) + loads_in(table, state)


def split_rows_in(table, state):
    """Return the list of the moves of rows that are allowed."""
    home, _, caches, net = state
    found = []
    for number, row in enumerate(table[3]):
        if row[0] in (-1, home):
            taken = places_of(row[2], net)
            found.extend([("row", number, k, i) for k in places_of(row[1], caches) for i in taken])
    return found


def split_states_on(table, n, moves):
    """Return the list of the states of a play, both ends with it."""
    check_split_table(table)
    if n < 0:
        raise BadNumber("there are no fewer than 0 caches")
    return states_by(split_begin(n), moves, lambda state, move: split_behind(table, state, move))


def split_play(table, n, moves):
    """Return the state to which a play leads."""
    return split_states_on(table, n, moves)[-1]


def split_loads_on(table, n, moves):
    """Return the list of the index, the cache and the told value of each load."""
    return told_by_loads(split_states_on(table, n, moves), moves)
