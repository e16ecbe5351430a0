"""Bars: the least heaps that come to a bad one."""

from coheir.closing import is_closed_back
from coheir.effects import Effects
from coheir.errors import BadNumber
from coheir.ghosts import check_heap
from coheir.layers import Layers, is_above_one
from coheir.met import check_met, least_bad
from coheir.tables import check_table
from coheir.whole import is_within

MOST_MOVES = 200


def bad_heaps(table):
    """Return the ascending list of the least bad heaps."""
    check_table(table)
    return least_bad(Effects(table))


def bar(table):
    """Return the ascending list of the heaps of the bar."""
    check_table(table)
    return Layers(Effects(table)).bar()


def bar_within(table, most):
    """Return the ascending list of the heaps of the bar within so many moves."""
    check_table(table)
    check_moves(most)
    return Layers(Effects(table), most).bar()


def check_moves(most):
    """Raise BadNumber if this is no number of moves that a bar may have."""
    if not is_within(most, 0, MOST_MOVES):
        raise BadNumber(f"the number of moves is from 0 to {MOST_MOVES}")


def comes(table, heap):
    """Tell whether a heap comes to a bad one."""
    effects = effects_met(table, [heap])
    return is_above_one(Layers(effects).bar(), heap)


def run_from(table, heap):
    """Return a list of moves, as few as possible, that lead from a heap to a bad one."""
    effects = effects_met(table, [heap])
    return Layers(effects).run(heap)


def is_bar_closed(table, heaps):
    """Tell whether a list of heaps is closed under steps back."""
    effects = effects_met(table, heaps)
    return is_closed_back(effects, heaps)


def effects_met(table, heaps):
    """Return the effects of a table, or raise NotHeap if one of a list is no heap of what is met."""
    check_table(table)
    for heap in heaps:
        check_heap(table, heap)
    effects = Effects(table)
    check_met(effects, heaps)
    return effects
