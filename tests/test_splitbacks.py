"""What is met in split tables, and steps back, [430] to [435]"""

import unittest

from coheir.backs import met_kinds, met_stands, steps_back, steps_back_by
from coheir.errors import BadMove, BadNumber, NotHeap, NotStand, NotTable
from coheir.samples import msi
from coheir.splitbacks import is_split_below, least_split, split_backs, split_backs_by, split_met
from coheir.splitghosts import split_heap_moves, split_start
from coheir.splitsamples import split_msi
from coheir.splittables import split_of
from splits import (
    ASKING, BOTH, CARELESS, NO_SPLIT_ROWS, SELF, SPLIT_ALONE, all_heap_moves, all_kinds, all_notes, all_stands, counts,
    heap_step, heaps_over, is_below_by_words, least, met_by_words, random_heap_run, random_split, steps_from,
)
from support import SMALL, chance, random_table
from test_splitghosts import NO_SPLIT_HEAPS

WRONG = ((1,), 1, 1, ())
BIG = 10 ** 30
# The own state 0 becomes 1 with a copy of the home, and sends it; a state 2 is never met.
ROWS = ((0, 1, 1), 2, 3, (
    (0, 0, -1, 1, 1, (0, 0, 2), ((0, "own"), (0, "own")), "home", "keep"),
    (-1, 0, 0, -1, 1, (0, 1, 1), ((0, "got"), (1, "own")), "got", "keep"),
    (0, -1, 1, 1, -1, (1, 1, 2), ((1, "got"),), "keep", "got"),
    (-1, 1, -1, -1, 0, (0, 0, 0), (), "keep", "keep"),
    (1, -1, -1, 0, -1, (0, 1, 2), ((2, "home"),), "keep", "keep"),
))


class MetTests(unittest.TestCase):
    """[430]"""

    def test_example(self):
        """[437]"""
        stands, kinds, notes = split_met(ASKING)
        self.assertEqual(stands, [(0, 0), (0, 1), (1, 0), (1, 1)])
        self.assertEqual(kinds, [(0, 0), (0, 1), (2, 0), (2, 1)])
        self.assertEqual(notes, [(0, 0), (0, 1), (1, 0), (1, 1)])

    def test_nothing_more(self):
        for table in (NO_SPLIT_ROWS, SPLIT_ALONE):
            self.assertEqual(split_met(table), ([(0, 1)], [(0, 0)], []))

    def test_messages_must_be_met(self):
        table = ((0, 1), 1, 2, ((0, 0, 1, 0, 1, (0, 1), ((0, "own"),), "got", "keep"),))
        self.assertEqual(split_met(table), ([(0, 1)], [(0, 0)], []))

    def test_by_the_words(self):
        source = chance(1)
        for table in [random_split(source) for _ in range(150)] + [split_msi(), ASKING, SELF, CARELESS, BOTH, ROWS]:
            self.assertEqual(split_met(table), met_by_words(table))

    def test_all_that_comes_is_met(self):
        source = chance(2)
        for _ in range(60):
            table = random_split(source)
            stands, kinds, notes = split_met(table)
            for stand, crowd, net in random_heap_run(source, table, split_start(table, 3), 15)[1]:
                self.assertIn(stand, stands)
                self.assertLessEqual({entry[:2] for entry in crowd}, set(kinds) | {(0, 0)})
                self.assertLessEqual({entry[:2] for entry in net}, set(notes))

    def test_lists_are_new(self):
        for part in split_met(ASKING):
            part.clear()
        self.assertEqual([len(part) for part in split_met(ASKING)], [4, 4, 4])

    def test_no_table(self):
        for table in (WRONG, msi()):
            with self.assertRaises(NotTable):
                split_met(table)


class BelowTests(unittest.TestCase):
    """[423], [431]"""

    def test_below(self):
        heap = ((1, 0), ((0, 0, 2), (2, 1, 1)), ((0, 1, 2), (3, 0, 1)))
        for crowd in ((), ((0, 0, 1),), ((0, 0, 2),), ((2, 1, 1),), heap[1]):
            for net in ((), ((0, 1, 1),), ((3, 0, 1),), heap[2]):
                self.assertIs(is_split_below(((1, 0), crowd, net), heap), True)
            for net in (((0, 1, 3),), ((0, 0, 1),), ((3, 1, 1),), ((0, 1, 1), (2, 0, 1))):
                self.assertIs(is_split_below(((1, 0), crowd, net), heap), False)
        for crowd in (((0, 0, 3),), ((0, 1, 1),), ((3, 0, 1),)):
            self.assertIs(is_split_below(((1, 0), crowd, ()), heap), False)
        for stand in ((0, 0), (1, 1)):
            self.assertIs(is_split_below((stand, (), ()), heap), False)

    def test_caches_are_no_messages(self):
        one, other = ((0, 1), ((1, 0, 1),), ()), ((0, 1), (), ((1, 0, 1),))
        self.assertIs(is_split_below(one, other), False)
        self.assertIs(is_split_below(other, one), False)
        self.assertEqual(least_split([one, other]), [other, one])

    def test_anything_of_the_form(self):
        big = ((99, -7), ((-3, 8, BIG), (50, 50, 5)), ((-1, 70, BIG),))
        self.assertTrue(is_split_below(((99, -7), ((-3, 8, BIG - 1),), ((-1, 70, BIG),)), big))
        self.assertFalse(is_split_below(((99, -7), ((-3, 8, BIG + 1),), ()), big))
        self.assertFalse(is_split_below(((99, -7), (), ((-1, 70, BIG + 1),)), big))
        self.assertEqual(least_split([big, ((99, -7), ((50, 50, 5),), ())]), [((99, -7), ((50, 50, 5),), ())])

    def test_least(self):
        self.assertEqual(least_split([]), [])
        one, two = ((0, 1), ((0, 0, 1),), ()), ((0, 1), ((0, 0, 1),), ((0, 0, 1),))
        three, far = ((0, 1), (), ((0, 0, 2),)), ((0, 0), ((0, 0, 9),), ((0, 0, 9),))
        self.assertEqual(least_split([three, two, one, two, far, one]), [far, three, one])
        self.assertEqual(least_split([two, two]), [two])
        self.assertEqual(least_split([two, ((0, 1), (), ()), three]), [((0, 1), (), ())])

    def test_by_chance(self):
        source = chance(3)
        every = heaps_over([(0, 0), (1, 1)], [(0, 0), (0, 1), (1, 0)], [(0, 0), (1, 0)], 3, 2)
        for _ in range(100):
            heaps = source.choices(every, k=source.randint(0, 12))
            given = list(heaps)
            self.assertEqual(least_split(heaps), least(heaps))
            self.assertEqual(heaps, given)
            for one, other in zip(heaps, heaps[::-1]):
                self.assertIs(is_split_below(one, other), is_below_by_words(one, other))


class StepTests(unittest.TestCase):
    """[432] to [434]"""

    def test_row_of_the_home_alone(self):
        """Messages are taken and sent, all caches go where others say"""
        heap = ((1, 1), ((1, 0, 2),), ((1, 1, 1),))
        self.assertEqual(split_backs_by(ROWS, (0, 0), ("row", 2, -1, 1), heap), [
            ((0, 0), ((0, 0, 1), (1, 0, 1)), ((1, 1, 1),)), ((0, 0), ((0, 0, 2),), ((1, 1, 1),)),
            ((0, 0), ((1, 0, 2),), ((1, 1, 1),)),
        ])
        self.assertEqual(split_backs_by(ROWS, (1, 0), ("row", 4, -1, -1), ((0, 0), ((2, 1, 1),), ((2, 0, 1),))),
                         [((1, 0), ((2, 1, 1),), ())])
        self.assertEqual(split_backs_by(ROWS, (1, 0), ("row", 4, -1, -1), ((0, 0), (), ((0, 0, 1),))), [((1, 0), (), ((0, 0, 1),))])
        # No state is mapped to 0, so a cache there has no step back.
        self.assertEqual(split_backs_by(ROWS, (0, 0), ("row", 2, -1, 1), ((1, 1), ((0, 0, 1),), ())), [])

    def test_row_of_a_cache(self):
        """With and without a state of the home; the own kind may be missing in the heap"""
        for crowd, ahead in (((), ((0, 0, 1),)), (((1, 1, 1),), ((0, 0, 1),)), (((0, 1, 1), (1, 1, 1)), None)):
            expected = [((0, 1), ahead, ())] if ahead else [
                ((0, 1), ((0, 0, 1), (0, 1, 1)), ()), ((0, 1), ((0, 0, 1), (1, 1, 1)), ())]
            self.assertEqual(split_backs_by(ROWS, (0, 1), ("row", 0, 0, -1), ((1, 1), crowd, ())), expected)
        for stand in all_stands(ROWS):
            self.assertEqual(split_backs_by(ROWS, stand, ("row", 3, 1, -1), (stand, ((0, 1, 1),), ((1, 0, 1),))),
                             [(stand, ((1, 1, 1),), ((1, 0, 1),))])
            self.assertEqual(split_backs_by(ROWS, stand, ("row", 1, 0, 1), (stand, ((0, 0, 1),), ())),
                             [(stand, ((0, 0, 2),), ((0, 1, 1),))])
            # A cache of the kind behind the row that is left behind comes from 1 or 2.
            self.assertEqual(split_backs_by(ROWS, stand, ("row", 1, 0, 1), (stand, ((1, 1, 2),), ())),
                             [(stand, ((0, 0, 1), (1, 1, 1)), ((0, 1, 1),)), (stand, ((0, 0, 1), (2, 1, 1)), ((0, 1, 1),))])

    def test_two_equal_messages_are_sent(self):
        """One is taken away for each one that is sent, if there is one of this kind"""
        for number, left in ((0, 0), (1, 0), (2, 0), (3, 1), (BIG, BIG - 2)):
            net = ((0, 0, number),) if number else ()
            expected = ((0, 0, left),) if left else ()
            self.assertEqual(split_backs_by(ROWS, (0, 1), ("row", 0, 0, -1), ((1, 1), (), net)), [((0, 1), ((0, 0, 1),), expected)])
        self.assertEqual(split_backs_by(ROWS, (0, 1), ("row", 0, 1, -1), ((1, 1), (), ((0, 0, 1), (0, 1, 3)))),
                         [((0, 1), ((0, 1, 1),), ((0, 0, 1), (0, 1, 1)))])

    def test_the_kind_that_is_taken_is_sent(self):
        """The message that the row takes is added, behind those that it sends were taken away"""
        for net, expected in (
            ((), ((0, 1, 1),)), (((0, 1, 1),), ((0, 1, 1),)), (((0, 1, 2),), ((0, 1, 2),)), (((0, 0, 1),), ((0, 0, 1), (0, 1, 1))),
            (((0, 1, 1), (1, 0, 2)), ((0, 1, 1), (1, 0, 1))), (((1, 1, 1),), ((0, 1, 1), (1, 1, 1))),
        ):
            self.assertEqual(split_backs_by(ROWS, (1, 1), ("row", 1, 0, 1), ((1, 1), (), net)), [((1, 1), ((0, 0, 1),), expected)])

    def test_store(self):
        """From both marks of the home; the others and the messages are dealt among old and fresh ones"""
        heap = ((1, 0), ((0, 0, 1), (1, 1, 1)), ((0, 0, 1), (2, 0, 1)))
        for stand in ((1, 0), (1, 1)):
            for x in (0, 1):
                found = split_backs_by(BOTH, stand, ("store", 1, x), heap)
                expected = [(stand, tuple(sorted([(0, a, 1), (1, x, 1)])), ((0, b, 1), (2, c, 1)))
                            for a in (0, 1) for b in (0, 1) for c in (0, 1)]
                self.assertEqual(found, sorted(expected))
        self.assertEqual(split_backs_by(BOTH, (0, 1), ("store", 1, 0), ((0, 0), (), ((1, 0, 2),))), [
            ((0, 1), ((1, 0, 1),), ((1, 0, 1), (1, 1, 1))), ((0, 1), ((1, 0, 1),), ((1, 0, 2),)), ((0, 1), ((1, 0, 1),), ((1, 1, 2),)),
        ])

    def test_store_leaves_no_fresh_copy(self):
        for crowd, net in ((((1, 1, 2),), ()), (((0, 1, 1),), ()), ((), ((0, 1, 1),)), (((1, 1, 1),), ((0, 0, 1), (0, 1, 1)))):
            self.assertEqual(split_backs_by(BOTH, (1, 0), ("store", 1, 1), ((1, 0), crowd, net)), [])
        for crowd in ((), ((1, 1, 1),)):
            self.assertEqual(split_backs_by(BOTH, (1, 0), ("store", 1, 1), ((1, 0), crowd, ())), [((1, 0), ((1, 1, 1),), ())])

    def test_any_number(self):
        heap = ((0, 1), ((1, 1, BIG),), ((0, 1, BIG),))
        self.assertEqual(split_backs_by(CARELESS, (0, 1), ("row", 1, 0, 1), heap),
                         [((0, 1), ((0, 0, 1), (1, 1, BIG - 1)), ((0, 1, BIG + 1),))])
        self.assertEqual(split_backs_by(CARELESS, (0, 1), ("row", 0, -1, -1), heap),
                         [((0, 1), ((1, 1, BIG),), ((0, 1, BIG - 1),))])

    def test_by_the_words(self):
        """By trying: the least ones among all heaps of any kinds from which the move leads above"""
        source = chance(4)
        asked, told = 0, 0
        while asked < 120:
            table = random_split(source, 3, 2, 2, 6)
            stand = source.choice(all_stands(table))
            heap = source.choice(heaps_over(all_stands(table), all_kinds(table), all_notes(table), 2, 2))
            moves = all_heap_moves(table)
            caches, messages = counts(heap)
            ahead = None
            for move in source.sample(moves, min(4, len(moves))):
                effect = self.stand_behind(table, stand, move)
                if effect != heap[0]:
                    with self.assertRaises(BadMove if effect is None else BadNumber):
                        split_backs_by(table, stand, move, heap)
                    continue
                ahead = ahead or heaps_over([stand], all_kinds(table), all_notes(table), caches + 1, messages + 1)
                led = [(one, heap_step(table, one, move)) for one in ahead]
                expected = least([one for one, behind in led if behind is not None and is_below_by_words(heap, behind)])
                self.assertEqual(split_backs_by(table, stand, move, heap), expected)
                asked += 1
                told += bool(expected)
        self.assertGreater(told, 40)

    def stand_behind(self, table, stand, move):
        """Return the stand behind a move of caches and messages that are all there, or None."""
        crowd = tuple((s, m, 1) for s, m in all_kinds(table))
        behind = heap_step(table, (stand, crowd, tuple((s, m, 1) for s, m in all_notes(table))), move)
        return None if behind is None else behind[0]

    def test_errors(self):
        heap = ((1, 0), ((0, 0, 1),), ((0, 0, 1),))
        good = ("row", 3, 0, 0)
        self.assertTrue(split_backs_by(BOTH, (1, 0), good, heap))
        for stand in ((2, 0), (0, 2), (-1, 0), (0, -1), ("1", 0), (1, True), (1,), (1, 0, 0)):
            with self.assertRaises(NotStand):
                split_backs_by(BOTH, stand, ("x", 1), ((9, 9), (), ()))
        for wrong in NO_SPLIT_HEAPS:
            with self.assertRaises(NotHeap):
                split_backs_by(split_msi(), (1, 0), ("x", 1), wrong)
        for move in (
            ("row", 0, 0, -1), ("row", 2, 0, 0), ("row", 5, -1, -1), ("row", 7, 0, 0), ("row", -1, 0, 0), ("row", 3, -1, 0),
            ("row", 3, 0, -1), ("row", 3, 2, 0), ("row", 3, 0, 2), ("row", 4, 0, 0), ("row", 4, -1, -1), ("row", 4, -2, 0),
            ("row", 3, 0), ("row", "3", 0, 0), ("row", 3, "0", 0), ("row", 3, 0, "0"), ("store", 0, 0), ("store", 2, 0),
            ("store", 3, 0), ("store", 4, 0), ("store", 1, 2), ("store", 1, -1), ("store", -2, 0), ("store", "1", 0), ("store", 1),
            ("load", 1), ("x", 1, 0), ("x", 3, 0, 0), (), ("row",),
        ):
            for told in (heap, ((0, 1), (), ())):
                with self.assertRaises(BadMove) as caught:
                    split_backs_by(BOTH, (1, 0), move, told)
                self.assertEqual(caught.exception.at, 0)
        for stand in ((0, 0), (0, 1), (1, 1)):
            for move in (good, ("store", 1, 1)):
                with self.assertRaises(BadNumber):
                    split_backs_by(BOTH, (1, 0), move, (stand, (), ()))
        with self.assertRaises(BadNumber):
            split_backs_by(BOTH, (1, 0), ("row", 4, -1, 1), heap)
        for table in (WRONG, msi()):
            with self.assertRaises(NotTable):
                split_backs_by(table, (9, 9), ("x", 1), ())


class BackTests(unittest.TestCase):
    """[435]"""

    def test_by_the_words(self):
        """By trying: the least ones among all heaps of what is met from which a move leads above"""
        source = chance(5)
        several = {0: 0, 1: 0, 2: 0}
        for _ in range(60):
            table = source.choice((ASKING, CARELESS, ROWS)) if source.random() < 0.2 else random_split(source, 3, 2, 2, 6)
            stands, kinds, notes = split_met(table)
            heap = source.choice(heaps_over(stands, kinds, notes, 2, 1))
            caches, messages = counts(heap)
            ahead = heaps_over(stands, kinds, notes, caches + 1, messages + 1)
            expected = [one for one in ahead if any(is_below_by_words(heap, told) for _, told in steps_from(table, one))]
            self.assertEqual(split_backs(table, heap), least(expected))
            several[min(2, len(least(expected)))] += 1
        self.assertTrue(all(several.values()), several)

    def test_what_is_not_met(self):
        """Others of a state that is not met are told by `split_backs_by` alone"""
        table = ((0, 0, 1), 1, 2, ((0, 0, -1, 0, 2, (0, 0, 2), ((1, "own"),), "keep", "keep"),))
        self.assertEqual(split_met(table), ([(0, 1)], [(0, 0), (2, 0)], [(1, 0)]))
        heap = ((0, 1), ((0, 0, 1), (2, 0, 1)), ())
        self.assertEqual(split_backs_by(table, (0, 1), ("row", 0, 0, -1), heap),
                         [((0, 1), ((0, 0, 1), (1, 0, 1)), ()), ((0, 1), ((0, 0, 2),), ())])
        self.assertEqual(split_backs(table, heap), [((0, 1), ((0, 0, 2),), ())])
        for wrong in (((0, 0), (), ()), ((0, 1), ((1, 0, 1),), ()), ((0, 1), ((0, 1, 1),), ()), ((0, 1), (), ((0, 0, 1),)),
                      ((0, 1), (), ((1, 1, 1),)), ((0, 1), ((0, 0, 1), (2, 0, 1), (2, 1, 1)), ()),
                      ((0, 1), (), ((0, 0, 1), (1, 0, 1)))):
            with self.assertRaises(NotHeap):
                split_backs(table, wrong)

    def test_errors(self):
        for wrong in NO_SPLIT_HEAPS:
            with self.assertRaises(NotHeap):
                split_backs(split_msi(), wrong)
        self.assertEqual(split_backs(NO_SPLIT_ROWS, ((0, 1), ((0, 0, 3),), ())), [])
        for table in (WRONG, msi()):
            with self.assertRaises(NotTable):
                split_backs(table, ())

    def test_greater_lead_to_greater(self):
        """[431]"""
        for table in (ASKING, split_msi()):
            stands, kinds, notes = split_met(table)
            for heap in heaps_over(stands, kinds, notes, 1, 1)[::7]:
                for back in split_backs(table, heap):
                    self.assertTrue(any(is_split_below(heap, told) for _, told in split_heap_moves(table, back)))

    def test_without_messages(self):
        """As those of the table, with an empty net"""
        source = chance(6)
        for _ in range(40):
            table = SMALL if source.random() < 0.1 else random_table(source, 4, 2, 10)
            table = (table[0], table[1], tuple(row for row in table[2] if row[2] == -1))
            split = split_of(table)
            stands, kinds = met_stands(table), met_kinds(table)
            self.assertEqual(split_met(split), (stands, kinds, []))
            heap = source.choice(heaps_over(stands, kinds, [], 3, 0))
            self.assertEqual(split_backs(split, heap), [one + ((),) for one in steps_back(table, heap[:2])])
            for stand in stands:
                for move in all_heap_moves(split):
                    behind = heap_step(split, (stand, tuple((s, m, 1) for s, m in all_kinds(split)), ()), move)
                    if behind is not None and behind[0] == heap[0]:
                        self.assertEqual(split_backs_by(split, stand, move, heap),
                                         [one + ((),) for one in steps_back_by(table, stand, move, heap[:2])])

    def test_lists_are_new(self):
        heap = ((1, 0), ((2, 0, 1),), ())
        for call in (lambda: split_backs(ASKING, heap), lambda: split_backs_by(ASKING, (1, 0), ("row", 2, 0, 0), heap),
                     lambda: least_split([heap])):
            first = call()
            expected = list(first)
            self.assertTrue(expected)
            first.clear()
            self.assertEqual(call(), expected)


if __name__ == "__main__":
    unittest.main()
