"""Heaps: how many caches of each kind there are, and which copies are fresh."""

from coheir.effects import Effects
from coheir.errors import BadNumber, NotHeap
from coheir.runs import states_by
from coheir.tables import check_table
from coheir.whole import is_tuple_of, is_whole, is_within


def is_stand(table, stand):
    """Tell whether a tuple is a stand of the table."""
    check_table(table)
    return has_stand(table, stand)


def has_stand(table, stand):
    """Tell whether a tuple is a stand of what is a table."""
    return is_tuple_of(stand, 2) and is_within(stand[0], 0, table[1] - 1) and is_within(stand[1], 0, 1)


def is_kind(table, kind):
    """Tell whether a tuple is a kind of caches of the table."""
    check_table(table)
    return has_kind(table, kind)


def has_kind(table, kind):
    """Tell whether a tuple is a kind of caches of what is a table."""
    return is_tuple_of(kind, 2) and is_within(kind[0], 0, len(table[0]) - 1) and is_within(kind[1], 0, 1)


def is_heap(table, heap):
    """Tell whether a tuple is a heap of the table."""
    check_table(table)
    return has_heap(table, heap)


def has_heap(table, heap):
    """Tell whether a tuple is a heap of what is a table."""
    return is_tuple_of(heap, 2) and has_stand(table, heap[0]) and is_crowd(heap[1], len(table[0]))


def is_crowd(crowd, size):
    """Tell whether a tuple has numbers of kinds with so many states, the kinds strictly ascending."""
    if not isinstance(crowd, tuple):
        return False
    ahead = (-1, 0)
    for entry in crowd:
        if not is_tuple_of(entry, 3) or not is_within(entry[0], 0, size - 1) or not is_within(entry[1], 0, 1):
            return False
        if not is_whole(entry[2]) or entry[2] < 1 or entry[:2] <= ahead:
            return False
        ahead = entry[:2]
    return True


def check_heap(table, heap):
    """Raise NotHeap if a tuple is no heap of the table."""
    if not is_heap(table, heap):
        raise NotHeap("this is no heap of the table")


def numbers_of(crowd):
    """Return the dict of the numbers of a crowd, by the kinds."""
    found = {}
    for state, mark, number in crowd:
        found[state, mark] = found.get((state, mark), 0) + number
    return found


def crowd_of(numbers):
    """Return the crowd with these numbers, by the kinds."""
    return tuple((kind[0], kind[1], numbers[kind]) for kind in sorted(numbers) if numbers[kind] > 0)


def start_heap(table, n):
    """Return the beginning with n caches."""
    check_table(table)
    if n < 0:
        raise BadNumber("there are no fewer than 0 caches")
    return ((0, 1), crowd_of({(0, 0): n}))


def is_bad(table, heap):
    """Tell whether a cache with a right has an old copy."""
    check_heap(table, heap)
    return has_old_right(table[0], heap[1])


def has_old_right(rights, crowd):
    """Tell whether a crowd has a cache with a right and an old copy."""
    return any(mark == 0 and rights[state] > 0 for state, mark, _ in crowd)


def heap_behind(effects, heap, move):
    """Return the heap behind a move with its effect, or None if it cannot be made."""
    effect = effects.effect(heap[0], move)
    if effect is None:
        return None
    stand, ahead, behind, images = effect
    left = numbers_of(heap[1])
    for kind in ahead:
        if left.get(kind, 0) == 0:
            return None
        left[kind] -= 1
    found = {}
    for kind, number in left.items():
        found[images[kind]] = found.get(images[kind], 0) + number
    for kind in behind:
        found[kind] = found.get(kind, 0) + 1
    return (stand, crowd_of(found))


def heap_moves(table, heap):
    """Return the list of the pairs of a move of a heap and the heap behind it."""
    check_heap(table, heap)
    return moves_from(Effects(table), heap)


def moves_from(effects, heap):
    """Return the list of the pairs of a move with an effect in a heap and the heap behind it."""
    pairs = [(move, heap_behind(effects, heap, move)) for move in effects.moves(heap[0])]
    return [(move, behind) for move, behind in pairs if behind is not None]


def heap_run(table, heap, moves):
    """Return the list of the heaps of a run, the first one first."""
    check_heap(table, heap)
    effects = Effects(table)
    return states_by(heap, moves, lambda one, move: heap_behind(effects, one, move))
