"""The ways back through the moves of a table."""

from coheir.effects import all_kinds
from coheir.errors import BadMove, BadNumber
from coheir.ghosts import crowd_of, numbers_of
from coheir.met import met_of
from coheir.packing import Packing, all_shares


def way_back(packing, stand, effect):
    """Return the way back through an effect from a stand.

    This is a tuple of the stand ahead, the crowd of the caches that make the move, the list
    of their kinds behind it, and the dict of the units of all kinds that are mapped to a kind.
    """
    _, ahead, behind, images = effect
    sources = {kind: [] for kind in packing.units}
    for kind, unit in packing.units.items():
        sources[images[kind]].append(unit)
    return (stand, sum([packing.units[kind] for kind in ahead]), behind, sources)


def crowds_back(way, numbers, share):
    """Return the list of the crowds of the steps back of a heap with these numbers.

    `share` is called with a number and a list of units, and returns ways to deal the number.
    """
    _, makers, behind, sources = way
    left = {kind: numbers[kind] for kind in numbers}
    for kind in behind:
        if left.get(kind, 0) > 0:
            left[kind] -= 1
    found = [makers]
    for kind, number in left.items():
        if number > 0:
            parts = share(number, sources[kind])
            found = [packed + part for packed in found for part in parts]
    return found


def most_ahead(heap):
    """Return a number that no step back of a heap passes: two kinds of one cache make a move at most."""
    return sum([number for _, _, number in heap[1]]) + 2


def backs_by(effects, stand, move, heap):
    """Return the ascending list of the steps back of a heap by a move from a stand."""
    effect = effects.effect(stand, move)
    if effect is None:
        raise BadMove(0)
    if effect[0] != heap[0]:
        raise BadNumber("the move leads to another stand than that of the heap")
    packing = Packing(all_kinds(effects.rights), most_ahead(heap))
    crowds = crowds_back(way_back(packing, stand, effect), numbers_of(heap[1]), all_shares)
    return sorted([(stand, crowd_of(packing.numbers(packed))) for packed in crowds])


def backs_of(effects, heap):
    """Return the ascending list of the least ones of all steps back of a heap of what is met."""
    back = Backways(effects, most_ahead(heap))
    crowds = back.backs(heap[0], numbers_of(heap[1]))
    return back.heaps({stand: back.packing.least(crowds[stand]) for stand in crowds})


class Backways:
    """The ways back between met stands and kinds of a table, for heaps with no number above `most`."""

    def __init__(self, effects, most):
        self.stands, kinds = met_of(effects)
        self.packing = Packing(kinds, most)
        self.ways = {stand: [] for stand in self.stands}
        for stand in self.stands:
            for move in effects.moves(stand):
                effect = effects.effect(stand, move)
                if all(kind in self.packing.units for kind in effect[1]):
                    self.ways[effect[0]].append(way_back(self.packing, stand, effect))

    def backs(self, stand, numbers):
        """Return the dict of the lists of the crowds of all steps back of a heap, by their stands."""
        found = {told: [] for told in self.stands}
        for way in self.ways[stand]:
            found[way[0]].extend(crowds_back(way, numbers, all_shares))
        return found

    def crowds(self, heaps):
        """Return the dict of the lists of the crowds of a list of heaps, by their stands."""
        found = {stand: [] for stand in self.stands}
        for stand, crowd in heaps:
            found[stand].append(self.packing.pack(crowd))
        return found

    def heaps(self, crowds):
        """Return the ascending list of the heaps with these crowds, told by their stands."""
        found = []
        for stand in crowds:
            found.extend([(stand, crowd_of(self.packing.numbers(packed))) for packed in crowds[stand]])
        return sorted(found)
