"""What a move does to a stand and to each kind of caches, whatever caches there are.

An effect is a tuple (stand, ahead, behind, images): the stand behind the move, the kinds
of the caches that make it and the kinds that these have behind it, and the dict that tells
for each kind the one that all further caches of it have behind it. Moves are made forwards
and backwards by their effects.
"""

from coheir.copies import copies_behind
from coheir.whole import is_within


class Effects:
    """The effects of the moves of a table."""

    def __init__(self, table):
        self.table = table
        self.rights = table[0]

    def effect(self, stand, move):
        """Return the effect of a move in a stand, or None if no caches can make it there."""
        if len(move) == 4 and move[0] == "row":
            return self.effect_of_row(stand, move)
        return effect_of_store(self.rights, stand, move)

    def effect_of_row(self, stand, move):
        """Return the effect of a row, or None."""
        _, number, x, y = move
        rows = self.table[2]
        if not is_within(number, 0, len(rows) - 1) or not is_within(x, 0, 1):
            return None
        row = rows[number]
        home, own, other, home2, own2, other2, others = row[:7]
        if home != stand[0] or not is_mark_for(y, other):
            return None
        home_mark, own_mark = copies_behind(row, stand[1], x, y)
        ahead = [(own, x)]
        behind = [(own2, own_mark)]
        if other != -1:
            ahead.append((other, y))
            behind.append((other2, y))
        return ((home2, home_mark), ahead, behind, images_by(others))

    def moves(self, stand):
        """Return the list of the moves that some caches can make in a stand, rows first."""
        found = []
        for number, row in enumerate(self.table[2]):
            if row[0] == stand[0]:
                found.extend([("row", number, x, y) for x in (0, 1) for y in marks_for(row[2])])
        return found + stores_by(self.rights)


def all_kinds(rights):
    """Return the ascending list of all kinds with states that have these rights."""
    return [(state, mark) for state in range(len(rights)) for mark in (0, 1)]


def images_by(others):
    """Return the kinds of all further caches behind a row that maps their states so."""
    return {(state, mark): (told, mark) for state, told in enumerate(others) for mark in (0, 1)}


def marks_for(wanted):
    """Return the list of the marks that a move may tell for what it wants, -1 for nothing."""
    return [-1] if wanted == -1 else [0, 1]


def is_mark_for(mark, wanted):
    """Tell whether a move may tell this mark for what it wants, -1 for nothing."""
    return is_within(mark, -1, -1) if wanted == -1 else is_within(mark, 0, 1)


def effect_of_store(rights, stand, move):
    """Return the effect of a store, or None."""
    if len(move) != 3 or move[0] != "store":
        return None
    _, state, x = move
    if not is_within(state, 0, len(rights) - 1) or rights[state] != 2 or not is_within(x, 0, 1):
        return None
    images = {(told, mark): (told, 0) for told, mark in all_kinds(rights)}
    return ((stand[0], 0), [(state, x)], [(state, 1)], images)


def stores_by(rights):
    """Return the list of the stores that some caches can make."""
    return [("store", state, x) for state, right in enumerate(rights) if right == 2 for x in (0, 1)]
