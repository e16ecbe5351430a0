"""Papers of tables, which show whether a table is coherent."""

from coheir.coherence import run_of
from coheir.effects import Effects
from coheir.layers import Layers
from coheir.met import met_of
from coheir.tables import check_table


def verdict(table):
    """Return the paper of a table: why nothing bad comes, or how it comes."""
    check_table(table)
    effects = Effects(table)
    layers = Layers(effects)
    count = layers.fewest()
    if count is not None:
        return ("comes", count, run_of(table, layers))
    stands, kinds = met_of(effects)
    return ("never", stands, kinds, layers.bar())
