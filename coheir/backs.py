"""Steps back: the least heaps from which a move leads to a heap above a told one."""

from coheir.backways import backs_by, backs_of
from coheir.effects import Effects
from coheir.errors import NotStand
from coheir.ghosts import check_heap, is_stand, numbers_of
from coheir.met import check_met, met_of
from coheir.tables import check_table


def met_stands(table):
    """Return the ascending list of the met stands."""
    check_table(table)
    return met_of(Effects(table))[0]


def met_kinds(table):
    """Return the ascending list of the met kinds."""
    check_table(table)
    return met_of(Effects(table))[1]


def is_below(one, other):
    """Tell whether a heap is below another one."""
    return one[0] == other[0] and has_no_more(numbers_of(one[1]), numbers_of(other[1]))


def has_no_more(few, many):
    """Tell whether of no kind a dict has a greater number than another one."""
    return all(number <= many.get(kind, 0) for kind, number in few.items())


def least_of(heaps):
    """Return the ascending list of the heaps that have no other one of a list below them."""
    return least_by({heap: numbers_of(heap[1]) for heap in heaps})


def least_by(numbers):
    """Return the ascending list of those heaps of a dict of their numbers that have no other one below them."""
    by_stand = {}
    for heap in numbers:
        by_stand.setdefault(heap[0], []).append(heap)
    found = []
    for group in by_stand.values():
        for heap in group:
            if not any(one != heap and has_no_more(numbers[one], numbers[heap]) for one in group):
                found.append(heap)
    return sorted(found)


def steps_back_by(table, stand, move, heap):
    """Return the ascending list of the steps back of a heap by a move from a stand."""
    if not is_stand(table, stand):
        raise NotStand("this is no stand of the table")
    check_heap(table, heap)
    return backs_by(Effects(table), stand, move, heap)


def steps_back(table, heap):
    """Return the ascending list of the least ones of all steps back of a heap."""
    check_heap(table, heap)
    effects = Effects(table)
    check_met(effects, [heap])
    return backs_of(effects, heap)
