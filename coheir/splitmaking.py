"""Programs made out of the faults of split tables."""

from coheir.layers import Layers
from coheir.making import made_of
from coheir.splitcoherence import found_split_pass, split_run_of
from coheir.spliteffects import SplitEffects
from coheir.splitplay import split_play
from coheir.splittables import check_split_table


def split_made_program(table):
    """Return the program, the run and the proof that are made of a bad run, or None if the table is coherent."""
    check_split_table(table)
    layers = Layers(SplitEffects(table))
    count = layers.fewest()
    if count is None:
        return None
    bad = split_run_of(table, layers)
    state = split_play(table, count, bad)
    return made_of(table, state, bad, lambda writer, reader: split_pass_between(table, writer, reader))


def split_pass_between(table, writer, reader):
    """Return a passing run in which these caches store and load, or None.

    The messages stand at the same places beside more caches, as all copies have the same values.
    """
    passing = found_split_pass(table)
    if passing is None:
        return None
    caches = {0: writer, 1: reader, -1: -1}
    found = []
    for move in passing:
        at = 2 if move[0] == "row" else 1
        found.append(move[:at] + (caches[move[at]],) + move[at + 1:])
    return found
