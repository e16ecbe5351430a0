"""The ways back through the moves of a table."""

from coheir.effects import effect_of, moves_at
from coheir.ghosts import crowd_of
from coheir.met import met_of
from coheir.packing import Packing, all_shares


def way_back(packing, stand, effect):
    """Return the way back through an effect from a stand.

    This is a tuple of the stand ahead, the crowd of the caches that make the move, the list
    of their kinds behind it, and the dict of the units of all kinds that are mapped to a kind.
    """
    _, ahead, behind, images = effect
    sources = {kind: [] for kind in packing.units}
    for kind, unit in packing.units.items():
        sources[images[kind]].append(unit)
    return (stand, sum([packing.units[kind] for kind in ahead]), behind, sources)


def crowds_back(way, numbers, share):
    """Return the list of the crowds of the steps back of a heap with these numbers.

    `share` is called with a number and a list of units, and returns ways to deal the number.
    """
    _, makers, behind, sources = way
    left = {kind: numbers[kind] for kind in numbers}
    for kind in behind:
        if left.get(kind, 0) > 0:
            left[kind] -= 1
    found = [makers]
    for kind, number in left.items():
        if number > 0:
            parts = share(number, sources[kind])
            found = [packed + part for packed in found for part in parts]
    return found


class Backways:
    """The ways back between met stands and kinds of a table, for heaps with no number above `most`."""

    def __init__(self, table, most):
        self.stands, kinds = met_of(table)
        self.packing = Packing(kinds, most)
        self.ways = {stand: [] for stand in self.stands}
        for stand in self.stands:
            for move in moves_at(table, stand):
                effect = effect_of(table, stand, move)
                if all(kind in self.packing.units for kind in effect[1]):
                    self.ways[effect[0]].append(way_back(self.packing, stand, effect))

    def backs(self, stand, numbers):
        """Return the dict of the lists of the crowds of all steps back of a heap, by their stands."""
        found = {told: [] for told in self.stands}
        for way in self.ways[stand]:
            found[way[0]].extend(crowds_back(way, numbers, all_shares))
        return found

    def crowds(self, heaps):
        """Return the dict of the lists of the crowds of a list of heaps, by their stands."""
        found = {stand: [] for stand in self.stands}
        for stand, crowd in heaps:
            found[stand].append(self.packing.pack(crowd))
        return found

    def heaps(self, crowds):
        """Return the ascending list of the heaps with these crowds, told by their stands."""
        found = []
        for stand in crowds:
            found.extend([(stand, crowd_of(self.packing.numbers(packed))) for packed in crowds[stand]])
        return sorted(found)
