"""From plays with numbered caches to heaps, and back."""

from coheir.copies import copies_behind
from coheir.effects import Effects
from coheir.errors import BadNumber
from coheir.ghosts import crowd_of, heap_run, start_heap
from coheir.lineplay import check_state, states_on
from coheir.whole import is_within


def marks_on(table, n, moves):
    """Return the list of the marks on a play, of the home and of the caches."""
    states_on(table, n, moves)
    found = [(1, (0,) * n)]
    for move in moves:
        found.append(marks_behind(table, found[-1], move))
    return found


def marks_behind(table, marks, move):
    """Return the marks behind an allowed move."""
    home, caches = marks
    if move[0] == "load":
        return marks
    if move[0] == "store":
        return (0, tuple(1 if at == move[1] else 0 for at in range(len(caches))))
    _, number, k, j = move
    other = 0 if j == -1 else caches[j]
    home2, own2 = copies_behind(table[2][number], home, caches[k], other)
    return (home2, caches[:k] + (own2,) + caches[k + 1:])


def counted(table, state, marks):
    """Return the heap of a state of a play with these marks."""
    check_state(table, state)
    home, _, caches = state
    if not is_within(marks[0], 0, 1) or not all(is_within(mark, 0, 1) for mark in marks[1]):
        raise BadNumber("a mark is 0 or 1")
    if len(marks[1]) != len(caches):
        raise BadNumber("there is one mark for each cache")
    return ((home, marks[0]), counted_crowd(caches, marks[1]))


def counted_crowd(entries, marks):
    """Return how many entries of each kind there are, the first part of an entry and its mark."""
    numbers = {}
    for entry, mark in zip(entries, marks):
        kind = (entry[0], mark)
        numbers[kind] = numbers.get(kind, 0) + 1
    return crowd_of(numbers)


def led(table, n, moves):
    """Return the list of the moves of heaps to which a play is led over."""
    states = states_on(table, n, moves)
    marks = marks_on(table, n, moves)
    found = []
    for at, move in enumerate(moves):
        caches = marks[at][1]
        if move[0] == "row":
            _, number, k, j = move
            found.append(("row", number, caches[k], -1 if j == -1 else caches[j]))
        if move[0] == "store":
            k = move[1]
            found.append(("store", states[at][2][k][0], caches[k]))
    return found


def lifted(table, n, moves):
    """Return the list of the moves of the lifted play."""
    heaps = heap_run(table, start_heap(table, n), moves)
    effects = Effects(table)
    crew = Crew()
    found = []
    stores = 0
    for heap, move in zip(heaps, moves):
        made = crew.make(effects.effect(heap[0], move))
        if move[0] == "store":
            stores += 1
            found.append(("store", made[0], stores))
        else:
            found.append(("row", move[1], made[0], made[1] if len(made) == 2 else -1))
    return found


class Crew:
    """The kinds of the numbered caches that have made a move.

    Caches with the least numbers make the moves, so these are the first ones, and all
    others still have one kind together. As the heap has caches for each move, the others
    have the wanted kind if none of the first ones has it. Any number of caches costs the same.
    """

    def __init__(self):
        self.kinds = []

    def make(self, effect):
        """Make a move by the caches with the least numbers, and return these."""
        _, ahead, behind, images = effect
        made = []
        for kind in ahead:
            made.append(self.first_of(kind, made))
        self.kinds = [images[kind] for kind in self.kinds]
        for k, kind in zip(made, behind):
            self.kinds[k] = kind
        return made

    def first_of(self, kind, taken):
        """Return the least number of a cache of a kind that is not taken yet."""
        for k, own in enumerate(self.kinds):
            if own == kind and k not in taken:
                return k
        self.kinds.append(kind)
        return len(self.kinds) - 1
