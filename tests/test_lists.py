"""Lists of heaps that are nearly closed under steps back, judged twice: by the words, and by the package."""

import itertools
import unittest

from coheir.backs import least_of, met_kinds, met_stands, steps_back
from coheir.bars import bad_heaps, is_bar_closed
from coheir.checkwalls import deals_are_above
from coheir.closing import are_above, heights_of
from coheir.packing import Packing
from coheir.tablecheck import wall_holds
from support import chance, random_table
from test_backs import below


def closure(table, heaps, most):
    """Return the least closed list that has heaps below all those of a list, or None if it is large."""
    known = []
    heaps = least_of(heaps + bad_heaps(table))
    while heaps != known:
        if len(heaps) > most:
            return None
        backs = [back for heap in heaps if heap not in known for back in steps_back(table, heap)]
        known, heaps = heaps, least_of(heaps + backs)
    return heaps


def random_heap(source, stands, kinds, numbers):
    picked = sorted(source.sample(kinds, source.randint(1, min(3, len(kinds)))))
    return (source.choice(stands), tuple((s, m, source.choice(numbers)) for s, m in picked))


def one_changed(source, heaps):
    """Return a list in which one heap has one cache more or less of one kind, or is missing."""
    at = source.randrange(len(heaps))
    stand, crowd = heaps[at]
    if not crowd or source.random() < 0.2:
        return heaps[:at] + heaps[at + 1:]
    place = source.randrange(len(crowd))
    s, m, number = crowd[place]
    number += source.choice((1, 1, -1))
    entry = ((s, m, number),) if number > 0 else ()
    return heaps[:at] + [(stand, crowd[:place] + entry + crowd[place + 1:])] + heaps[at + 1:]


def merging_table(source):
    """Return a table in which many rows bring several states to one."""
    table = random_table(source, 4, 2, 5)
    rows = []
    for row in table[2]:
        others = tuple(source.choice((0, 0, min(1, len(table[0]) - 1), state)) for state in range(len(table[0])))
        rows.append(row[:6] + (others,) + row[7:])
    return (table[0], table[1], tuple(rows))


class ListTests(unittest.TestCase):
    """[85], [103], [131], [133]"""

    def test_nearly_closed_lists(self):
        source = chance(81)
        answers = {True: 0, False: 0}
        while min(answers.values()) < 300:
            table = merging_table(source)
            stands, kinds = met_stands(table), met_kinds(table)
            numbers = source.choice(((1, 2, 3, 4), (3, 5), (2, 6)))
            seeds = [random_heap(source, stands, kinds, numbers) for _ in range(source.randint(1, 3))]
            heaps = closure(table, seeds, 40)
            if heaps:
                self.judge(table, heaps, answers)
                for _ in range(6):
                    self.judge(table, one_changed(source, heaps), answers)

    def judge(self, table, heaps, answers):
        stands, kinds = met_stands(table), met_kinds(table)
        asked = bad_heaps(table) + [back for heap in heaps for back in steps_back(table, heap)]
        expected = all(any(below(one, heap) for one in heaps) for heap in asked)
        answers[expected] += 1
        self.assertIs(is_bar_closed(table, heaps), expected, (table, heaps))
        self.assertIs(wall_holds(table, stands, kinds, heaps), expected, (table, heaps))


class DealTests(unittest.TestCase):
    """[83], [84]: only the worst ways to deal are looked at, and this decides as all ways do."""

    KINDS = [(0, 0), (1, 0), (2, 0), (3, 0)]

    def all_deals(self, number, kinds):
        if len(kinds) == 1:
            return [{kinds[0]: number}]
        return [
            {kinds[0]: first, **rest} for first in range(number + 1) for rest in self.all_deals(number - first, kinds[1:])
        ]

    def test_worst_ways(self):
        source = chance(82)
        answers = {True: 0, False: 0}
        while min(answers.values()) < 600:
            one, two = source.choice((([0, 1, 2], [3]), ([0, 1], [2, 3]), ([0, 1, 2, 3], [])))
            groups = [[self.KINDS[at] for at in part] for part in (one, two) if part]
            made = {kind: source.choice((0, 0, 1, 2)) for kind in self.KINDS}
            numbers = [source.randint(1, 8) for _ in groups]
            wall = []
            for _ in range(source.randint(1, 5)):
                picked = sorted(source.sample(self.KINDS, source.randint(1, 2)))
                wall.append(tuple((s, m, source.randint(1, 7)) for s, m in picked))
            expected = self.exhaustive(groups, numbers, made, wall)
            answers[expected] += 1
            self.assertIs(deals_are_above(made, list(zip(numbers, groups)), wall), expected)
            self.assertIs(self.by_packing(groups, numbers, made, wall), expected)

    def exhaustive(self, groups, numbers, made, wall):
        for deals in itertools.product(*[self.all_deals(n, group) for n, group in zip(numbers, groups)]):
            told = dict(made)
            for deal in deals:
                for kind, share in deal.items():
                    told[kind] += share
            if not any(all(told[s, m] >= number for s, m, number in crowd) for crowd in wall):
                return False
        return True

    def by_packing(self, groups, numbers, made, wall):
        packing = Packing(self.KINDS, 100)
        sources = {group[0]: [packing.units[kind] for kind in group] for group in groups}
        makers = packing.pack(tuple((s, m, made[s, m]) for s, m in self.KINDS))
        told = [packing.pack(crowd) for crowd in wall]
        dealt = packing.pack(tuple(group[0] + (number,) for number, group in zip(numbers, groups)))
        return are_above(packing, (None, makers, [], sources), [dealt], told, heights_of(packing, told))


if __name__ == "__main__":
    unittest.main()
