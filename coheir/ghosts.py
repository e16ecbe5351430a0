"""Heaps: how many caches of each kind there are, and which copies are fresh."""

from coheir.effects import effect_of, moves_at
from coheir.errors import BadMove, BadNumber, NotHeap
from coheir.tables import check_table
from coheir.whole import is_tuple_of, is_whole, is_within


def is_stand(table, stand):
    """Tell whether a tuple is a stand of the table."""
    check_table(table)
    return has_stand(table, stand)


def has_stand(table, stand):
    """Tell whether a tuple is a stand of what is a table."""
    return is_tuple_of(stand, 2) and is_within(stand[0], 0, table[1] - 1) and is_within(stand[1], 0, 1)


def is_kind(table, kind):
    """Tell whether a tuple is a kind of caches of the table."""
    check_table(table)
    return has_kind(table, kind)


def has_kind(table, kind):
    """Tell whether a tuple is a kind of caches of what is a table."""
    return is_tuple_of(kind, 2) and is_within(kind[0], 0, len(table[0]) - 1) and is_within(kind[1], 0, 1)


def is_heap(table, heap):
    """Tell whether a tuple is a heap of the table."""
    check_table(table)
    return has_heap(table, heap)


def has_heap(table, heap):
    """Tell whether a tuple is a heap of what is a table."""
    if not is_tuple_of(heap, 2) or not has_stand(table, heap[0]) or not isinstance(heap[1], tuple):
        return False
    ahead = (-1, 0)
    for entry in heap[1]:
        if not is_tuple_of(entry, 3) or not has_kind(table, entry[:2]):
            return False
        if not is_whole(entry[2]) or entry[2] < 1 or entry[:2] <= ahead:
            return False
        ahead = entry[:2]
    return True


def check_heap(table, heap):
    """Raise NotHeap if a tuple is no heap of the table."""
    if not is_heap(table, heap):
        raise NotHeap("this is no heap of the table")


def numbers_of(crowd):
    """Return the dict of the numbers of a crowd, by the kinds."""
    found = {}
    for state, mark, number in crowd:
        found[state, mark] = found.get((state, mark), 0) + number
    return found


def crowd_of(numbers):
    """Return the crowd with these numbers, by the kinds."""
    return tuple((kind[0], kind[1], numbers[kind]) for kind in sorted(numbers) if numbers[kind] > 0)


def start_heap(table, n):
    """Return the beginning with n caches."""
    check_table(table)
    if n < 0:
        raise BadNumber("there are no fewer than 0 caches")
    return ((0, 1), crowd_of({(0, 0): n}))


def is_bad(table, heap):
    """Tell whether a cache with a right has an old copy."""
    check_heap(table, heap)
    return has_old_right(table, heap)


def has_old_right(table, heap):
    """Tell whether what is a heap is bad."""
    return any(mark == 0 and table[0][state] > 0 for state, mark, _ in heap[1])


def heap_behind(table, heap, move):
    """Return the heap behind a move, or None if it cannot be made."""
    effect = effect_of(table, heap[0], move)
    if effect is None:
        return None
    stand, ahead, behind, images = effect
    left = numbers_of(heap[1])
    for kind in ahead:
        if left.get(kind, 0) == 0:
            return None
        left[kind] -= 1
    found = {}
    for kind, number in left.items():
        found[images[kind]] = found.get(images[kind], 0) + number
    for kind in behind:
        found[kind] = found.get(kind, 0) + 1
    return (stand, crowd_of(found))


def heap_moves(table, heap):
    """Return the list of the pairs of a move of a heap and the heap behind it."""
    check_heap(table, heap)
    pairs = [(move, heap_behind(table, heap, move)) for move in moves_at(table, heap[0])]
    return [(move, behind) for move, behind in pairs if behind is not None]


def heap_run(table, heap, moves):
    """Return the list of the heaps of a run, the first one first."""
    check_heap(table, heap)
    found = [heap]
    for at, move in enumerate(moves):
        behind = heap_behind(table, found[-1], move)
        if behind is None:
            raise BadMove(at)
        found.append(behind)
    return found
