"""Split heaps, [421] to [423]"""

import unittest

from coheir.errors import BadMove, BadNumber, NotHeap, NotTable
from coheir.samples import msi
from coheir.splitghosts import is_split_bad, is_split_heap, split_heap_moves, split_heap_run, split_start
from coheir.splitsamples import split_msi
from splits import (
    ASKING, BOTH, CARELESS, NO_SPLIT_ROWS, SELF, heaps_over, is_bad_by_words, is_below_by_words, random_heap_run,
    random_split, steps_from,
)
from support import chance

WRONG = ((1,), 1, 1, ())
BIG = 10 ** 30
WRONG_CROWDS = (
    ((5, 0, 1),), ((-1, 0, 1),), ((0, 2, 1),), ((0, -1, 1),), ((0, 0, 0),), ((0, 0, -1),), ((0, 0, "1"),), (("0", 0, 1),),
    ((0, "0", 1),), ((0, 0, True),), ((0, False, 1),), ((True, 0, 1),), ((0, 1, 1), (0, 0, 1)), ((0, 0, 1), (0, 0, 1)),
    ((1, 0, 1), (0, 1, 1)), ((0, 0, 1), (1, 0, 2), (1, 0, 3)), ((0, 0),), ((0, 0, 1, 1),), [(0, 0, 1)], 0,
)
# No heaps of split_msi, which has five states of caches, five of the home and five kinds of messages.
NO_SPLIT_HEAPS = tuple(
    [(stand, (), ()) for stand in ((5, 0), (-1, 0), (0, 2), (0, -1), ("0", 0), (0, True), (0,), (0, 1, 0))]
    + [((0, 1), crowd, ()) for crowd in WRONG_CROWDS] + [((0, 1), (), net) for net in WRONG_CROWDS]
    + [(), ((0, 1), ()), ((0, 1), (), (), ())]
)


class FormTests(unittest.TestCase):
    """[421]"""

    def test_heaps(self):
        full = tuple((s, m, s + m + 1) for s in range(5) for m in (0, 1))
        for heap in (
            ((0, 1), (), ()), ((4, 0), ((4, 1, 1),), ((4, 1, 1),)), ((0, 0), full, full), ((0, 1), ((0, 0, BIG),), ((0, 0, BIG),)),
            ((2, 1), (), ((0, 0, 1), (0, 1, 2), (3, 0, 1))),
        ):
            self.assertIs(is_split_heap(split_msi(), heap), True)

    def test_no_heaps(self):
        for heap in NO_SPLIT_HEAPS:
            self.assertIs(is_split_heap(split_msi(), heap), False, heap)
            for call in (lambda: is_split_bad(split_msi(), heap), lambda: split_heap_moves(split_msi(), heap),
                         lambda: split_heap_run(split_msi(), heap, [("x", 1)])):
                with self.assertRaises(NotHeap):
                    call()

    def test_numbers_of_the_table(self):
        """Two states of caches, one of the home, one kind of messages"""
        for heap, right in (
            (((0, 1), ((1, 0, 1),), ((0, 0, 1),)), True), (((1, 1), (), ()), False), (((0, 1), ((2, 0, 1),), ()), False),
            (((0, 1), (), ((1, 0, 1),)), False),
        ):
            self.assertIs(is_split_heap(CARELESS, heap), right)

    def test_start(self):
        self.assertEqual(split_start(split_msi(), 0), ((0, 1), (), ()))
        for n in (1, 2, BIG):
            self.assertEqual(split_start(split_msi(), n), ((0, 1), ((0, 0, n),), ()))
        for n in (-1, -BIG):
            with self.assertRaises(BadNumber):
                split_start(split_msi(), n)

    def test_no_table(self):
        for table in (WRONG, msi()):
            for call in (lambda: is_split_heap(table, ()), lambda: split_start(table, -1), lambda: is_split_bad(table, ()),
                         lambda: split_heap_moves(table, ()), lambda: split_heap_run(table, (), [("x", 1)])):
                with self.assertRaises(NotTable):
                    call()


class BadTests(unittest.TestCase):
    """[423]"""

    def test_bad(self):
        for crowd, net, bad in (
            ((), (), False), (((0, 0, 5), (3, 0, 1), (4, 0, 1)), (), False), (((1, 1, 2), (2, 1, 1)), (), False),
            (((1, 0, 1),), (), True), (((2, 0, 1),), (), True), (((0, 0, 1), (1, 1, 1), (2, 0, 1)), (), True),
            ((), ((0, 0, 1), (1, 0, 1), (2, 0, 9)), False), (((1, 0, 1), (1, 1, 5)), ((0, 1, 1),), True),
        ):
            for stand in ((0, 0), (4, 1)):
                self.assertIs(is_split_bad(split_msi(), (stand, crowd, net)), bad)

    def test_by_chance(self):
        source = chance(1)
        for _ in range(100):
            table = random_split(source, 4, 2, 3, 12)
            for heap in random_heap_run(source, table, split_start(table, 3), 10)[1]:
                self.assertIs(is_split_bad(table, heap), is_bad_by_words(table, heap))


class MoveTests(unittest.TestCase):
    """[422]"""

    def test_example(self):
        """The play of [416], with two caches"""
        moves = [("row", 3, 0, -1), ("row", 4, -1, 0), ("row", 5, 0, 1), ("store", 2, 1), ("row", 7, 1, -1)]
        self.assertEqual(split_heap_run(split_msi(), split_start(split_msi(), 2), moves), [
            ((0, 1), ((0, 0, 2),), ()), ((0, 1), ((0, 0, 1), (4, 0, 1)), ((4, 0, 1),)),
            ((3, 1), ((0, 0, 1), (4, 0, 1)), ((1, 1, 1),)), ((1, 1), ((0, 0, 1), (2, 1, 1)), ()),
            ((1, 0), ((0, 0, 1), (2, 1, 1)), ()), ((4, 0), ((0, 0, 1), (0, 1, 1)), ((2, 1, 1),)),
        ])

    def test_order(self):
        heap = ((1, 0), ((0, 0, 1), (1, 0, 1), (1, 1, 2), (2, 1, 1)), ((0, 0, 1), (0, 1, 1), (1, 1, 1)))
        self.assertEqual([move for move, _ in split_heap_moves(BOTH, heap)], [
            ("row", 1, 0, 0), ("row", 1, 0, 1), ("row", 1, 1, 0), ("row", 1, 1, 1), ("row", 3, 0, 0), ("row", 3, 0, 1),
            ("row", 3, 1, 0), ("row", 3, 1, 1), ("row", 4, -1, 1), ("row", 6, 1, 0), ("row", 6, 1, 1),
            ("store", 1, 0), ("store", 1, 1),
        ])

    def test_marks_of_all_copies(self):
        """Each of source, back and sends, with each word and each mark"""
        heap = ((1, 0), ((1, 1, 1),), ((0, 0, 1),))
        self.assertEqual(dict(split_heap_moves(BOTH, heap))[("row", 1, 1, 0)],
                         ((0, 1), ((2, 0, 1),), ((0, 0, 1), (2, 0, 1))))
        heap = ((0, 1), ((2, 0, 1),), ((2, 1, 2),))
        self.assertEqual(dict(split_heap_moves(BOTH, heap))[("row", 2, 0, 1)], ((1, 1), ((1, 1, 1),), ((2, 1, 3),)))
        heap = ((0, 0), ((0, 1, 1),), ())
        self.assertEqual(dict(split_heap_moves(BOTH, heap))[("row", 0, 1, -1)], ((1, 1), ((1, 0, 1),), ((0, 0, 1), (0, 1, 1))))
        heap = ((1, 0), ((1, 0, 1),), ((0, 1, 1),))
        self.assertEqual(dict(split_heap_moves(BOTH, heap))[("row", 3, 0, 1)], ((1, 0), ((1, 0, 1),), ((0, 0, 1), (1, 1, 1))))
        heap = ((1, 0), ((0, 1, 2), (1, 1, 1)), ((1, 1, 1),))
        self.assertEqual(dict(split_heap_moves(BOTH, heap))[("row", 4, -1, 1)],
                         ((0, 1), ((0, 1, 1), (1, 1, 2)), ((0, 1, 1), (1, 0, 1))))

    def test_store_makes_messages_old(self):
        heap = ((1, 1), ((0, 1, 1), (1, 0, 1), (1, 1, 3)), ((0, 0, 1), (0, 1, 2), (2, 1, 4)))
        self.assertEqual(split_heap_run(BOTH, heap, [("store", 1, 1)])[1],
                         ((1, 0), ((0, 0, 1), (1, 0, 3), (1, 1, 1)), ((0, 0, 3), (2, 0, 4))))
        self.assertEqual(split_heap_run(BOTH, heap, [("store", 1, 0)])[1],
                         ((1, 0), ((0, 0, 1), (1, 0, 3), (1, 1, 1)), ((0, 0, 3), (2, 0, 4))))

    def test_any_number(self):
        heap = ((0, 1), ((0, 0, BIG),), ((0, 0, BIG),))
        self.assertEqual(split_heap_run(CARELESS, heap, [("row", 0, -1, -1), ("row", 1, 0, 1)])[1:], [
            ((0, 1), ((0, 0, BIG),), ((0, 0, BIG), (0, 1, 1))), ((0, 1), ((0, 0, BIG - 1), (1, 1, 1)), ((0, 0, BIG),)),
        ])

    def test_no_caches(self):
        self.assertEqual(split_heap_moves(CARELESS, split_start(CARELESS, 0)), [(("row", 0, -1, -1), ((0, 1), (), ((0, 1, 1),)))])
        self.assertEqual(split_heap_moves(NO_SPLIT_ROWS, split_start(NO_SPLIT_ROWS, 7)), [])

    def test_one_by_one(self):
        source = chance(2)
        for table in [split_msi(), ASKING, SELF, CARELESS, BOTH] * 6 + [random_split(source, 5, 3, 4, 16) for _ in range(120)]:
            for heap in random_heap_run(source, table, split_start(table, source.randint(0, 4)), 12)[1]:
                self.assertEqual(split_heap_moves(table, heap), steps_from(table, heap))

    def test_any_heaps(self):
        """Also those to which no moves lead from a beginning"""
        source = chance(3)
        for _ in range(60):
            table = random_split(source, 3, 2, 2, 10)
            stands = [(h, m) for h in range(table[1]) for m in (0, 1)]
            kinds = [(s, m) for s in range(len(table[0])) for m in (0, 1)]
            notes = [(s, m) for s in range(table[2]) for m in (0, 1)]
            for heap in source.sample(heaps_over(stands, kinds, notes, 2, 2), 10):
                self.assertEqual(split_heap_moves(table, heap), steps_from(table, heap))

    def test_greater_ones(self):
        """[423]: what a move does, it does to each heap above, with more behind it"""
        source = chance(4)
        for _ in range(60):
            table = random_split(source, 3, 2, 2, 10)
            heap = random_heap_run(source, table, split_start(table, 2), 6)[1][-1]
            crowd = {(s, m): number for s, m, number in heap[1]}
            net = {(s, m): number for s, m, number in heap[2]}
            for part, size in ((crowd, len(table[0])), (net, table[2])):
                kind = (source.randrange(size), source.randint(0, 1))
                part[kind] = part.get(kind, 0) + source.randint(0, 2)
            more = (heap[0], *(tuple((*kind, part[kind]) for kind in sorted(part) if part[kind]) for part in (crowd, net)))
            behind = dict(split_heap_moves(table, more))
            for move, told in split_heap_moves(table, heap):
                self.assertTrue(is_below_by_words(told, behind[move]))

    def test_wrong_moves(self):
        heap = ((1, 0), ((0, 0, 1), (1, 1, 1), (2, 1, 1)), ((0, 0, 1), (1, 1, 1)))
        for move in (
            ("row", 1, 0, 0), ("row", 1, 1, 1), ("row", 1, -1, 0), ("row", 1, 1, -1), ("row", 1, 2, 0), ("row", 1, 1, 2),
            ("row", 4, 0, 1), ("row", 4, -1, 0), ("row", 4, -1, -1), ("row", 0, 0, -1), ("row", 7, 1, 0), ("row", -1, 1, 0),
            ("row", -7, -1, -1), ("row", "1", 1, 0), ("row", 1, "1", 0), ("row", 1, 1, "0"), ("row", 6, 1, 1), ("row", 1, 1),
            ("row", 1, -2, 0), ("row", 1, 1, -2), ("row", 4, -2, 1), ("row", 4, -1, 2), ("store", 1, -1), ("store", 1, -2),
            ("row", 5, -1, -1), ("store", 1, 0), ("store", 2, 1), ("store", 0, 0), ("store", 3, 1), ("store", -2, 1),
            ("store", 1, 2), ("store", "1", 1), ("store", 1), ("load", 1), ("x", 1, 1), (), ("row",), ("x", 1, 1, 0),
            ("store", 3, 0), ("store", 4, 0),
        ):
            with self.assertRaises(BadMove) as caught:
                split_heap_run(BOTH, heap, [move])
            self.assertEqual(caught.exception.at, 0, move)
        with self.assertRaises(BadMove) as caught:
            split_heap_run(BOTH, heap, [("row", 1, 1, 0), ("row", 1, 1, 0)])
        self.assertEqual(caught.exception.at, 1)

    def test_lists(self):
        moves = [("row", 0, -1, -1)]
        for call in (lambda: split_heap_moves(CARELESS, split_start(CARELESS, 1)),
                     lambda: split_heap_run(CARELESS, split_start(CARELESS, 1), moves)):
            first = call()
            expected = list(first)
            first.clear()
            self.assertEqual(call(), expected)
        self.assertEqual(moves, [("row", 0, -1, -1)])


if __name__ == "__main__":
    unittest.main()
