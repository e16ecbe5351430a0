"""The bars of a table within 0, 1, 2 .. moves."""

from coheir.backs import is_below
from coheir.backways import Backways
from coheir.errors import NoAnswer, TooLarge
from coheir.ghosts import moves_from
from coheir.met import least_bad

MOST_HEAPS = 1000

# A heap of the bar within k moves has 2 * k + 1 caches at the most: no number comes near this.
MOST_NUMBER = 1000000000


def is_above_one(heaps, heap):
    """Tell whether a heap is above one of a list of heaps."""
    return any(is_below(one, heap) for one in heaps)


class Layers:
    """The bars of a table within 0, 1, 2 .. moves, until they stay the same, or within `most` moves."""

    def __init__(self, effects, most=None):
        self.effects = effects
        self.back = Backways(effects, MOST_NUMBER)
        self.bars = [least_bad(effects)]
        crowds = self.back.crowds(self.bars[0])
        news = crowds
        while any(news.values()) and (most is None or len(self.bars) <= most):
            news = self.new_ones(crowds, news)
            crowds = self.joined(crowds, news)
            if sum([len(group) for group in crowds.values()]) > MOST_HEAPS:
                raise TooLarge("a bar has more than 1000 heaps")
            self.bars.append(self.back.heaps(crowds))

    def new_ones(self, crowds, latest):
        """Return the crowds that the bar within one move more has in addition.

        Only steps back of the latest ones are new: those of all others are above the bar.
        """
        packing = self.back.packing
        found = {stand: {} for stand in crowds}
        for stand, group in latest.items():
            for packed in group:
                for told, ahead in self.back.backs(stand, packing.numbers(packed)).items():
                    for one in ahead:
                        found[told][one] = True
        news = {}
        for stand, group in found.items():
            news[stand] = packing.least([one for one in group if not packing.has_below(crowds[stand], one)])
        return news

    def joined(self, crowds, news):
        """Return the least ones among the crowds of a bar and the new ones."""
        packing = self.back.packing
        found = {}
        for stand, group in crowds.items():
            kept = [one for one in group if not packing.has_below(news[stand], one)]
            found[stand] = kept + news[stand]
        return found

    def bar(self):
        """Return the ascending list of the heaps of the last bar."""
        return list(self.bars[-1])

    def depth(self, heap):
        """Return the least number of moves with which a heap comes to a bad one, or None."""
        for most, heaps in enumerate(self.bars):
            if is_above_one(heaps, heap):
                return most
        return None

    def run(self, heap):
        """Return a list of moves, as few as possible, from a heap to a bad one."""
        most = self.depth(heap)
        if most is None:
            raise NoAnswer("the heap does not come to a bad one")
        found = []
        for left in reversed(range(most)):
            move, heap = self.step(heap, left)
            found.append(move)
        return found

    def step(self, heap, left):
        """Return the first move to a heap that comes to a bad one with so many moves left, and this heap."""
        pairs = moves_from(self.effects, heap)
        return [pair for pair in pairs if is_above_one(self.bars[left], pair[1])][0]

    def fewest(self):
        """Return the least number of caches of a beginning that comes to a bad heap, or None."""
        for stand, crowd in self.bars[-1]:
            if stand == (0, 1) and len(crowd) == 1 and crowd[0][:2] == (0, 0):
                return crowd[0][2]
        return None
