"""Coherent split tables, bad runs of others, and split tables that pass values."""

from coheir.errors import NoAnswer
from coheir.layers import Layers
from coheir.lineplay import behind_store, has_right
from coheir.search import run_to, states_from
from coheir.spliteffects import SplitEffects
from coheir.splitghosts import split_start
from coheir.splitlead import split_lifted
from coheir.splitplay import behind_split_row, split_begin, split_rows_in
from coheir.splittables import check_split_table

MOST_UNDER_WAY = 4


def is_split_coherent(table):
    """Tell whether a split table is coherent."""
    return split_fewest(table) is None


def split_fewest(table):
    """Return the fewest caches with which a bad heap comes, or None."""
    check_split_table(table)
    return Layers(SplitEffects(table)).fewest()


def split_bad_run(table):
    """Return a bad run: the moves of a play with the fewest caches."""
    check_split_table(table)
    return split_run_of(table, Layers(SplitEffects(table)))


def split_run_of(table, layers):
    """Return a bad run that the bars of a split table tell."""
    count = layers.fewest()
    if count is None:
        raise NoAnswer("the split table is coherent")
    start = layers.effects.joined(split_start(table, count))
    return split_lifted(table, count, layers.run(start))


def split_passes(table):
    """Tell whether the cache 1 can load what the cache 0 has stored."""
    check_split_table(table)
    return found_split_pass(table) is not None


def split_passing_run(table):
    """Return moves of a play with two caches, as few as possible, to a load that tells the stored value."""
    check_split_table(table)
    found = found_split_pass(table)
    if found is None:
        raise NoAnswer("the split table does not pass")
    return found


def found_split_pass(table):
    """Return a passing run, or None.

    All states with the numbers of their stores are found, also those behind the load: whether
    there are too many of them does not depend on what the run is.
    """
    found = states_from(table, (split_begin(2), 0), followers_of_two)
    for state, stores in found:
        if has_right(table, state, 1, 1) and state[2][1][1] == 1:
            return run_to(found, (state, stores)) + [("load", 1)]
    return None


def followers_of_two(table, pair):
    """Return the rows and the one store that can be made, each with the pair behind it."""
    state, stores = pair
    found = []
    for move in split_rows_in(table, state):
        behind = behind_split_row(table, state, move)
        if len(behind[3]) <= MOST_UNDER_WAY:
            found.append((move, (behind, stores)))
    if stores == 0 and has_right(table, state, 0, 2):
        move = ("store", 0, 1)
        found.append((move, (behind_store(table, state, move), 1)))
    return found
