"""Steps back of split heaps: the least heaps from which a move leads to a heap above a told one."""

from coheir.backs import has_no_more, least_by
from coheir.backways import backs_by, backs_of
from coheir.errors import NotStand
from coheir.ghosts import has_stand
from coheir.met import check_met, met_of
from coheir.spliteffects import SplitEffects
from coheir.splitghosts import check_split_heap
from coheir.splittables import check_split_table


def split_met(table):
    """Return the ascending lists of the met stands, of the met kinds of caches and of those of messages."""
    check_split_table(table)
    effects = SplitEffects(table)
    stands, kinds = met_of(effects)
    caches = [kind for kind in kinds if kind[0] < effects.size]
    messages = [(state - effects.size, mark) for state, mark in kinds if state >= effects.size]
    return stands, caches, messages


def split_numbers_of(heap):
    """Return the dict of the numbers of a heap, by kinds of caches and of messages, whatever they are."""
    found = {}
    for part, crowd in enumerate(heap[1:]):
        for state, mark, number in crowd:
            found[part, state, mark] = found.get((part, state, mark), 0) + number
    return found


def is_split_below(one, other):
    """Tell whether a heap is below another one."""
    return one[0] == other[0] and has_no_more(split_numbers_of(one), split_numbers_of(other))


def least_split(heaps):
    """Return the ascending list of the heaps that have no other one of a list below them."""
    return least_by({heap: split_numbers_of(heap) for heap in heaps})


def split_backs_by(table, stand, move, heap):
    """Return the ascending list of the steps back of a heap by a move from a stand."""
    check_split_table(table)
    if not has_stand(table, stand):
        raise NotStand("this is no stand of the split table")
    check_split_heap(table, heap)
    effects = SplitEffects(table)
    return effects.all_parted(backs_by(effects, stand, move, effects.joined(heap)))


def split_backs(table, heap):
    """Return the ascending list of the least ones of all steps back of a heap."""
    check_split_heap(table, heap)
    effects = SplitEffects(table)
    check_met(effects, [effects.joined(heap)])
    return effects.all_parted(backs_of(effects, effects.joined(heap)))
