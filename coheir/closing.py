"""Lists of heaps that are closed under steps back."""

from coheir.backways import Backways, crowds_back, most_ahead
from coheir.layers import is_above_one
from coheir.met import least_bad
from coheir.packing import worst_shares


def is_closed_back(effects, heaps):
    """Tell whether a list of heaps of what is met is closed under steps back."""
    if not all(is_above_one(heaps, heap) for heap in least_bad(effects)):
        return False
    back = Backways(effects, max([most_ahead(heap) for heap in heaps], default=1))
    crowds = back.crowds(heaps)
    heights = {stand: heights_of(back.packing, crowds[stand]) for stand in crowds}
    for stand in crowds:
        for way in back.ways[stand]:
            told = way[0]
            if not are_above(back.packing, way, crowds[stand], crowds[told], heights[told]):
                return False
    return True


def heights_of(packing, crowds):
    """Return the dict of the ascending lists of the numbers that some crowds have of each kind."""
    found = {kind: {} for kind in packing.units}
    for packed in crowds:
        for kind, number in packing.numbers(packed).items():
            found[kind][number] = True
    return {kind: sorted(found[kind]) for kind in found}


def are_above(packing, way, crowds, told, heights):
    """Tell whether all steps back of some crowds by a way are above one of the told crowds."""
    made = packing.numbers(way[1])
    higher = {}
    for kind, unit in packing.units.items():
        higher[unit] = [height - made[kind] for height in heights[kind]]
    for packed in crowds:
        numbers = packing.numbers(packed)
        found = crowds_back(way, numbers, lambda number, units: worst_shares(number, units, higher))
        if not all(packing.has_below(told, one) for one in found):
            return False
    return True
