"""Papers of split tables, which show whether a split table is coherent."""

from coheir.layers import Layers
from coheir.splitbacks import split_met
from coheir.splitcoherence import split_run_of
from coheir.spliteffects import SplitEffects
from coheir.splittables import check_split_table


def split_verdict(table):
    """Return the paper of a split table: why nothing bad comes, or how it comes."""
    check_split_table(table)
    effects = SplitEffects(table)
    layers = Layers(effects)
    count = layers.fewest()
    if count is not None:
        return ("comes", count, split_run_of(table, layers))
    stands, kinds, notes = split_met(table)
    return ("never", stands, kinds, notes, effects.all_parted(layers.bar()))
