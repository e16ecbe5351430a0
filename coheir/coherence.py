"""Coherent tables, bad runs of others, and tables that pass values."""

from coheir.effects import Effects
from coheir.errors import NoAnswer
from coheir.ghostlead import lifted
from coheir.ghosts import start_heap
from coheir.layers import Layers
from coheir.lineplay import line_behind
from coheir.tables import check_table


def is_coherent(table):
    """Tell whether a table is coherent."""
    return fewest_caches(table) is None


def fewest_caches(table):
    """Return the fewest caches with which a bad heap comes, or None."""
    check_table(table)
    return Layers(Effects(table)).fewest()


def bad_run(table):
    """Return a bad run: the moves of a play with the fewest caches."""
    check_table(table)
    return run_of(table, Layers(Effects(table)))


def run_of(table, layers):
    """Return a bad run that the bars of a table tell."""
    count = layers.fewest()
    if count is None:
        raise NoAnswer("the table is coherent")
    return lifted(table, count, layers.run(start_heap(table, count)))


def passes(table):
    """Tell whether the cache 1 can load what the cache 0 has stored."""
    check_table(table)
    return found_pass(table) is not None


def passing_run(table):
    """Return moves of a play with two caches, as few as possible, to a load that tells the stored value."""
    check_table(table)
    found = found_pass(table)
    if found is None:
        raise NoAnswer("the table does not pass")
    return found


def found_pass(table):
    """Return a passing run, or None.

    All copies but those of the stored value are told as 0. A second store is never in a
    shortest run: what is loaded comes from one store, and all others may be left out.
    """
    moves = moves_of_two(table)
    begin = (0, 0, ((0, 0), (0, 0)))
    ways = {begin: None}
    waiting = [begin]
    while waiting:
        later = []
        for state in waiting:
            if line_behind(table, state, ("load", 1)) is not None and state[2][1][1] == 1:
                return way_to(ways, state) + [("load", 1)]
            for move in moves:
                behind = line_behind(table, state, move)
                if behind is not None and behind not in ways:
                    ways[behind] = (state, move)
                    later.append(behind)
        waiting = later
    return None


def moves_of_two(table):
    """Return the list of all moves of rows of two caches, and the store of the cache 0."""
    found = [("store", 0, 1)]
    for number, row in enumerate(table[2]):
        for k in (0, 1):
            found.append(("row", number, k, -1 if row[2] == -1 else 1 - k))
    return found


def way_to(ways, state):
    """Return the list of the moves on the way to a state."""
    found = []
    while ways[state] is not None:
        state, move = ways[state]
        found.append(move)
    return found[::-1]
