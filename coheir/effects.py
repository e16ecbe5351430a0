"""What a move does to a stand and to each kind of caches, whatever caches there are.

An effect is a tuple (stand, ahead, behind, images): the stand behind the move, the kinds
of the caches that make it and the kinds that these have behind it, and the dict that tells
for each kind the one that all further caches of it have behind it. Moves are made forwards
and backwards by their effects.
"""

from coheir.copies import copies_behind
from coheir.whole import is_within


def kinds_of(table):
    """Return the ascending list of all kinds of caches."""
    return [(state, mark) for state in range(len(table[0])) for mark in (0, 1)]


def effect_of(table, stand, move):
    """Return the effect of a move in a stand, or None if no caches can make it there."""
    if len(move) == 4 and move[0] == "row":
        return effect_of_row(table, stand, move)
    if len(move) == 3 and move[0] == "store":
        return effect_of_store(table, stand, move)
    return None


def effect_of_row(table, stand, move):
    """Return the effect of a row, or None."""
    _, number, x, y = move
    if not is_within(number, 0, len(table[2]) - 1) or not is_within(x, 0, 1):
        return None
    row = table[2][number]
    home, own, other, home2, own2, other2, others = row[:7]
    low, high = (-1, -1) if other == -1 else (0, 1)
    if home != stand[0] or not is_within(y, low, high):
        return None
    home_mark, own_mark = copies_behind(row, stand[1], x, y)
    ahead = [(own, x)]
    behind = [(own2, own_mark)]
    if other != -1:
        ahead.append((other, y))
        behind.append((other2, y))
    images = {(state, mark): (others[state], mark) for state, mark in kinds_of(table)}
    return ((home2, home_mark), ahead, behind, images)


def effect_of_store(table, stand, move):
    """Return the effect of a store, or None."""
    _, state, x = move
    rights = table[0]
    if not is_within(state, 0, len(rights) - 1) or rights[state] != 2 or not is_within(x, 0, 1):
        return None
    images = {(told, mark): (told, 0) for told, mark in kinds_of(table)}
    return ((stand[0], 0), [(state, x)], [(state, 1)], images)


def moves_at(table, stand):
    """Return the list of the moves that some caches can make in a stand, rows first."""
    found = []
    for number, row in enumerate(table[2]):
        if row[0] == stand[0]:
            marks = [-1] if row[2] == -1 else [0, 1]
            found.extend([("row", number, x, y) for x in (0, 1) for y in marks])
    for state, right in enumerate(table[0]):
        if right == 2:
            found.extend([("store", state, x) for x in (0, 1)])
    return found
