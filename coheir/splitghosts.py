"""Split heaps: how many caches and messages of each kind there are, and which copies are fresh."""

from coheir.errors import BadNumber, NotHeap
from coheir.ghosts import crowd_of, has_old_right, has_stand, heap_behind, is_crowd, moves_from
from coheir.runs import states_by
from coheir.spliteffects import SplitEffects
from coheir.splittables import check_split_table
from coheir.whole import is_tuple_of


def is_split_heap(table, heap):
    """Tell whether a tuple is a split heap of the table."""
    check_split_table(table)
    if not is_tuple_of(heap, 3) or not has_stand(table, heap[0]):
        return False
    return is_crowd(heap[1], len(table[0])) and is_crowd(heap[2], table[2])


def check_split_heap(table, heap):
    """Raise NotHeap if a tuple is no split heap of the table."""
    if not is_split_heap(table, heap):
        raise NotHeap("this is no heap of the split table")


def split_start(table, n):
    """Return the beginning with n caches."""
    check_split_table(table)
    if n < 0:
        raise BadNumber("there are no fewer than 0 caches")
    return ((0, 1), crowd_of({(0, 0): n}), ())


def is_split_bad(table, heap):
    """Tell whether a cache with a right has an old copy."""
    check_split_heap(table, heap)
    return has_old_right(table[0], heap[1])


def split_heap_moves(table, heap):
    """Return the list of the pairs of a move of a heap and the heap behind it."""
    check_split_heap(table, heap)
    effects = SplitEffects(table)
    return [(move, effects.parted(behind)) for move, behind in moves_from(effects, effects.joined(heap))]


def split_heap_run(table, heap, moves):
    """Return the list of the heaps of a run, the first one first."""
    check_split_heap(table, heap)
    effects = SplitEffects(table)
    heaps = states_by(effects.joined(heap), moves, lambda one, move: heap_behind(effects, one, move))
    return [effects.parted(one) for one in heaps]
