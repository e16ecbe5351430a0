"""What a move does to the stand, the caches and the messages of a split table.

A message is told as one more kind of caches: the states of messages are numbered behind
those of caches, and have no right. So effects, heaps, steps back and bars of split tables
are those of tables, with joined heaps: pairs of a stand and a crowd of caches and messages.
"""

from coheir.copies import split_copies_behind
from coheir.effects import effect_of_store, images_by, is_mark_for, marks_for, stores_by
from coheir.whole import is_within


class SplitEffects:
    """The effects of the moves of a split table."""

    def __init__(self, table):
        self.table = table
        self.size = len(table[0])
        self.rights = table[0] + (0,) * table[2]

    def effect(self, stand, move):
        """Return the effect of a move in a stand, or None if it cannot be made there."""
        if len(move) == 4 and move[0] == "row":
            return self.effect_of_row(stand, move)
        return effect_of_store(self.rights, stand, move)

    def effect_of_row(self, stand, move):
        """Return the effect of a row, or None."""
        _, number, x, y = move
        rows = self.table[3]
        if not is_within(number, 0, len(rows) - 1):
            return None
        row = rows[number]
        home, own, gets, home2, own2, others, sends = row[:7]
        if home not in (-1, stand[0]) or not is_mark_for(x, own) or not is_mark_for(y, gets):
            return None
        home_mark, own_mark, sent = split_copies_behind(row, stand[1], x, y)
        ahead = []
        behind = [(self.size + kind, mark) for (kind, _), mark in zip(sends, sent)]
        if own != -1:
            ahead.append((own, x))
            behind.append((own2, own_mark))
        if gets != -1:
            ahead.append((self.size + gets, y))
        messages = tuple(range(self.size, len(self.rights)))
        stand2 = (stand[0] if home == -1 else home2, home_mark)
        return (stand2, ahead, behind, images_by(others + messages))

    def moves(self, stand):
        """Return the list of the moves that can be made in a stand, rows first."""
        found = []
        for number, row in enumerate(self.table[3]):
            if row[0] in (-1, stand[0]):
                found.extend([("row", number, x, y) for x in marks_for(row[1]) for y in marks_for(row[2])])
        return found + stores_by(self.rights)

    def joined(self, heap):
        """Return the joined heap of a split heap."""
        stand, crowd, net = heap
        messages = tuple([(self.size + kind, mark, number) for kind, mark, number in net])
        return (stand, crowd + messages)

    def parted(self, heap):
        """Return the split heap of a joined heap."""
        stand, crowd = heap
        caches = tuple([entry for entry in crowd if entry[0] < self.size])
        net = tuple([(state - self.size, mark, number) for state, mark, number in crowd if state >= self.size])
        return (stand, caches, net)

    def all_parted(self, heaps):
        """Return the ascending list of the split heaps of some joined heaps."""
        return sorted([self.parted(heap) for heap in heaps])
