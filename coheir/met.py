"""What can be met in a table: stands and kinds."""

from coheir.errors import NotHeap


def met_of(effects):
    """Return the ascending lists of the met stands and of the met kinds of a table with these effects."""
    stands = {(0, 1): True}
    kinds = {(0, 0): True}
    known = 0
    while known < len(stands) + len(kinds):
        known = len(stands) + len(kinds)
        for stand in list(stands):
            for move in effects.moves(stand):
                meet(stands, kinds, effects.effect(stand, move))
    return sorted(stands), sorted(kinds)


def meet(stands, kinds, effect):
    """Put what is behind a move to what is met, if all kinds of caches that make it are met."""
    stand, ahead, behind, images = effect
    if all(kind in kinds for kind in ahead):
        stands[stand] = True
        found = [images[kind] for kind in kinds] + behind
        for kind in found:
            kinds[kind] = True


def check_met(effects, heaps):
    """Raise NotHeap if one of a list of heaps has a stand or a kind that is not met."""
    stands, kinds = met_of(effects)
    for heap in heaps:
        if heap[0] not in stands or not all(entry[:2] in kinds for entry in heap[1]):
            raise NotHeap("the heap has a stand or a kind that is not met")


def least_bad(effects):
    """Return the ascending list of the least bad heaps of a table with these effects."""
    stands, kinds = met_of(effects)
    states = [state for state, mark in kinds if mark == 0 and effects.rights[state] > 0]
    return [(stand, ((state, 0, 1),)) for stand in stands for state in states]
