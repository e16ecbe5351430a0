"""Steps back: the least heaps from which a move leads to a heap above a told one."""

from coheir.backways import Backways, crowds_back, way_back
from coheir.effects import effect_of, kinds_of
from coheir.errors import BadMove, BadNumber, NotStand
from coheir.ghosts import check_heap, crowd_of, is_stand, numbers_of
from coheir.met import check_met, met_of
from coheir.packing import Packing, all_shares
from coheir.tables import check_table


def met_stands(table):
    """Return the ascending list of the met stands."""
    check_table(table)
    return met_of(table)[0]


def met_kinds(table):
    """Return the ascending list of the met kinds."""
    check_table(table)
    return met_of(table)[1]


def is_below(one, other):
    """Tell whether a heap is below another one."""
    return one[0] == other[0] and has_no_more(numbers_of(one[1]), numbers_of(other[1]))


def has_no_more(few, many):
    """Tell whether of no kind a dict has a greater number than another one."""
    return all(number <= many.get(kind, 0) for kind, number in few.items())


def least_of(heaps):
    """Return the ascending list of the heaps that have no other one of a list below them."""
    by_stand = {}
    for heap in heaps:
        by_stand.setdefault(heap[0], {})[heap] = numbers_of(heap[1])
    found = []
    for group in by_stand.values():
        for heap, numbers in group.items():
            if not any(one != heap and has_no_more(few, numbers) for one, few in group.items()):
                found.append(heap)
    return sorted(found)


def steps_back_by(table, stand, move, heap):
    """Return the ascending list of the steps back of a heap by a move from a stand."""
    if not is_stand(table, stand):
        raise NotStand("this is no stand of the table")
    check_heap(table, heap)
    effect = effect_of(table, stand, move)
    if effect is None:
        raise BadMove(0)
    if effect[0] != heap[0]:
        raise BadNumber("the move leads to another stand than that of the heap")
    packing = Packing(kinds_of(table), most_ahead(heap))
    crowds = crowds_back(way_back(packing, stand, effect), numbers_of(heap[1]), all_shares)
    return sorted([(stand, crowd_of(packing.numbers(packed))) for packed in crowds])


def most_ahead(heap):
    """Return a number that no step back of a heap passes: two caches make a move at most."""
    return sum([number for _, _, number in heap[1]]) + 2


def steps_back(table, heap):
    """Return the ascending list of the least ones of all steps back of a heap."""
    check_table(table)
    check_met(table, [heap])
    back = Backways(table, most_ahead(heap))
    crowds = back.backs(heap[0], numbers_of(heap[1]))
    return back.heaps({stand: back.packing.least(crowds[stand]) for stand in crowds})
