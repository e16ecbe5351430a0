"""Bars: the least heaps that come to a bad one."""

from coheir.backs import most_ahead
from coheir.backways import Backways, crowds_back
from coheir.errors import BadNumber
from coheir.layers import Layers, is_above_one
from coheir.met import check_met, least_bad
from coheir.packing import worst_shares
from coheir.tables import check_table
from coheir.whole import is_within

MOST_MOVES = 200


def bad_heaps(table):
    """Return the ascending list of the least bad heaps."""
    check_table(table)
    return least_bad(table)


def bar(table):
    """Return the ascending list of the heaps of the bar."""
    check_table(table)
    return Layers(table).bar()


def bar_within(table, most):
    """Return the ascending list of the heaps of the bar within so many moves."""
    check_table(table)
    if not is_within(most, 0, MOST_MOVES):
        raise BadNumber("the number of moves is from 0 to 200")
    return Layers(table, most).bar()


def comes(table, heap):
    """Tell whether a heap comes to a bad one."""
    check_table(table)
    check_met(table, [heap])
    return is_above_one(Layers(table).bar(), heap)


def run_from(table, heap):
    """Return a list of moves, as few as possible, that lead from a heap to a bad one."""
    check_table(table)
    check_met(table, [heap])
    return Layers(table).run(heap)


def is_bar_closed(table, heaps):
    """Tell whether a list of heaps is closed under steps back."""
    check_table(table)
    check_met(table, heaps)
    if not all(is_above_one(heaps, heap) for heap in least_bad(table)):
        return False
    back = Backways(table, max([most_ahead(heap) for heap in heaps], default=1))
    crowds = back.crowds(heaps)
    heights = {stand: heights_of(back.packing, crowds[stand]) for stand in crowds}
    for stand in crowds:
        for way in back.ways[stand]:
            told = way[0]
            if not are_above(back.packing, way, crowds[stand], crowds[told], heights[told]):
                return False
    return True


def heights_of(packing, crowds):
    """Return the dict of the ascending lists of the numbers that some crowds have of each kind."""
    found = {kind: {} for kind in packing.units}
    for packed in crowds:
        for kind, number in packing.numbers(packed).items():
            found[kind][number] = True
    return {kind: sorted(found[kind]) for kind in found}


def are_above(packing, way, crowds, told, heights):
    """Tell whether all steps back of some crowds by a way are above one of the told crowds."""
    made = packing.numbers(way[1])
    higher = {}
    for kind, unit in packing.units.items():
        higher[unit] = [height - made[kind] for height in heights[kind]]
    for packed in crowds:
        numbers = packing.numbers(packed)
        found = crowds_back(way, numbers, lambda number, units: worst_shares(number, units, higher))
        if not all(packing.has_below(told, one) for one in found):
            return False
    return True
