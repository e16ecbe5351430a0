"""Bars of split tables: the least heaps that come to a bad one."""

from coheir.bars import check_moves
from coheir.closing import is_closed_back
from coheir.layers import Layers, is_above_one
from coheir.met import check_met, least_bad
from coheir.spliteffects import SplitEffects
from coheir.splitghosts import check_split_heap
from coheir.splittables import check_split_table


def split_bad_heaps(table):
    """Return the ascending list of the least bad heaps."""
    check_split_table(table)
    effects = SplitEffects(table)
    return effects.all_parted(least_bad(effects))


def split_bar(table):
    """Return the ascending list of the heaps of the bar."""
    check_split_table(table)
    effects = SplitEffects(table)
    return effects.all_parted(Layers(effects).bar())


def split_bar_within(table, most):
    """Return the ascending list of the heaps of the bar within so many moves."""
    check_split_table(table)
    check_moves(most)
    effects = SplitEffects(table)
    return effects.all_parted(Layers(effects, most).bar())


def is_split_bar_closed(table, heaps):
    """Tell whether a list of heaps is closed under steps back."""
    effects, joined = joined_met(table, heaps)
    return is_closed_back(effects, joined)


def split_comes(table, heap):
    """Tell whether a heap comes to a bad one."""
    effects, joined = joined_met(table, [heap])
    return is_above_one(Layers(effects).bar(), joined[0])


def split_run_from(table, heap):
    """Return a list of moves, as few as possible, that lead from a heap to a bad one."""
    effects, joined = joined_met(table, [heap])
    return Layers(effects).run(joined[0])


def joined_met(table, heaps):
    """Return the effects of a split table and the joined heaps of a list, or raise NotHeap if one is not met."""
    check_split_table(table)
    for heap in heaps:
        check_split_heap(table, heap)
    effects = SplitEffects(table)
    joined = [effects.joined(heap) for heap in heaps]
    check_met(effects, joined)
    return effects, joined
