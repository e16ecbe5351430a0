import unittest

from coheir.errors import BadMove, BadNumber, NotHeap, NotTable
from coheir.ghosts import heap_moves, heap_run, is_bad, is_heap, is_kind, is_stand, start_heap
from coheir.samples import mesi, mosi, msi
from support import NO_ROWS, chance, random_table

WRONG = ((1,), 1, ())

NO_HEAPS = (
    ((2, 0), ()), ((0, 2), ()), ((-1, 0), ()), ((0, -1), ()), (("0", 0), ()), ((0, True), ()),
    ((0, 1), ((3, 0, 1),)), ((0, 1), ((-1, 0, 1),)), ((0, 1), ((0, 2, 1),)), ((0, 1), ((0, 0, 0),)),
    ((0, 1), ((0, 0, -1),)), ((0, 1), ((0, 0, "1"),)), ((0, 1), (("0", 0, 1),)), ((0, 1), ((0, 0, True),)),
    ((0, 1), ((0, 1, 1), (0, 0, 1))), ((0, 1), ((0, 0, 1), (0, 0, 1))), ((0, 1), ((1, 0, 1), (0, 1, 1))),
    ((0, 1), ((0, 0, 1), (1, 0, 2), (1, 0, 3))), ((0, 1), ((0, False, 1),)),
)

# All sources and backs, with a partner: the rows only move marks.
MARKS = ((0, 2, 0), 1, tuple(
    (0, 1, 2, 0, 1, 2, (0, 1, 2), source, back)
    for source in ("keep", "home", "other")
    for back in ("keep", "own", "other")
))


def random_run(source, table, heap, length):
    """Return the moves and the heaps of a run made by chance."""
    moves, heaps = [], [heap]
    for _ in range(length):
        pairs = heap_moves(table, heaps[-1])
        if pairs:
            move, behind = source.choice(pairs)
            moves.append(move)
            heaps.append(behind)
    return moves, heaps


class FormTests(unittest.TestCase):
    """[51], [52]"""

    def test_stands(self):
        for home in (0, 1):
            for fresh in (0, 1):
                self.assertIs(is_stand(msi(), (home, fresh)), True)
        for stand in ((2, 0), (-1, 0), (0, 2), (0, -1), ("0", 0), (0, "1"), (True, 0), (0, True), (10 ** 30, 0)):
            self.assertIs(is_stand(msi(), stand), False)

    def test_kinds(self):
        for state in (0, 1, 2):
            for fresh in (0, 1):
                self.assertIs(is_kind(msi(), (state, fresh)), True)
        for kind in ((3, 0), (-1, 0), (0, 2), (0, -1), ("0", 0), (0, "1"), (True, 0), (0, False), (0, 10 ** 30)):
            self.assertIs(is_kind(msi(), kind), False)

    def test_heaps(self):
        for heap in (
            ((0, 1), ()), ((1, 0), ((2, 1, 1),)), ((0, 0), ((0, 0, 1), (0, 1, 10 ** 30), (1, 0, 2), (2, 1, 3))),
        ):
            self.assertIs(is_heap(msi(), heap), True)
        for heap in NO_HEAPS:
            self.assertIs(is_heap(msi(), heap), False, heap)

    def test_start(self):
        self.assertEqual(start_heap(msi(), 0), ((0, 1), ()))
        self.assertEqual(start_heap(msi(), 1), ((0, 1), ((0, 0, 1),)))
        self.assertEqual(start_heap(msi(), 10 ** 30), ((0, 1), ((0, 0, 10 ** 30),)))
        for n in (-1, -10 ** 30):
            with self.assertRaises(BadNumber):
                start_heap(msi(), n)

    def test_no_table(self):
        for function, arguments in (
            (is_stand, ((9, 9),)), (is_kind, ((9, 9),)), (is_heap, (NO_HEAPS[0],)), (start_heap, (-1,)),
            (is_bad, (NO_HEAPS[0],)), (heap_moves, (NO_HEAPS[0],)), (heap_run, (NO_HEAPS[0], [("x", 1)])),
        ):
            with self.assertRaises(NotTable):
                function(WRONG, *arguments)

    def test_no_heap(self):
        for heap in NO_HEAPS:
            for function, more in ((is_bad, ()), (heap_moves, ()), (heap_run, ([("x", 1)],))):
                with self.assertRaises(NotHeap):
                    function(msi(), heap, *more)


class BadTests(unittest.TestCase):
    """[55]"""

    def test_bad(self):
        for crowd in (((1, 0, 1),), ((2, 0, 5),), ((0, 0, 1), (1, 0, 1), (2, 1, 1)), ((1, 1, 1), (2, 0, 1))):
            self.assertIs(is_bad(msi(), ((0, 1), crowd)), True)

    def test_not_bad(self):
        for crowd in ((), ((0, 0, 5),), ((0, 0, 1), (0, 1, 1), (1, 1, 1), (2, 1, 9)), ((1, 1, 1),)):
            for stand in ((0, 0), (1, 1)):
                self.assertIs(is_bad(msi(), (stand, crowd)), False)


class MoveTests(unittest.TestCase):
    """[53], [54], [57]"""

    def test_marks(self):
        for home in (0, 1):
            for x in (0, 1):
                for y in (0, 1):
                    heap = ((0, home), ((1, x, 1), (2, y, 1)))
                    for number, row in enumerate(MARKS[2]):
                        own2 = {"keep": x, "home": home, "other": y}[row[7]]
                        home2 = {"keep": home, "own": x, "other": y}[row[8]]
                        behind = heap_run(MARKS, heap, [("row", number, x, y)])[1]
                        self.assertEqual(behind, ((0, home2), ((1, own2, 1), (2, y, 1))))

    def test_others(self):
        table = ((0, 1, 1, 2), 2, ((0, 0, 1, 1, 3, 2, (1, 3, 0, 2), "home", "keep"),))
        heap = ((0, 1), ((0, 0, 2), (0, 1, 3), (1, 0, 4), (2, 1, 5), (3, 0, 6)))
        self.assertEqual(heap_run(table, heap, [("row", 0, 1, 0)])[1], (
            (1, 1), ((0, 1, 5), (1, 0, 2), (1, 1, 2), (2, 0, 7), (3, 0, 3), (3, 1, 1)),
        ))

    def test_one_kind_wants_two(self):
        table = ((0, 1), 1, ((0, 0, 0, 0, 1, 0, (0, 1), "keep", "keep"),))
        self.assertEqual(heap_moves(table, start_heap(table, 1)), [])
        self.assertEqual(
            heap_moves(table, start_heap(table, 2)),
            [(("row", 0, 0, 0), ((0, 1), ((0, 0, 1), (1, 0, 1))))],
        )

    def test_stores(self):
        heap = ((1, 1), ((0, 0, 2), (0, 1, 3), (1, 1, 4), (2, 0, 5), (2, 1, 1)))
        self.assertEqual(
            heap_run(msi(), heap, [("store", 2, 0)])[1],
            ((1, 0), ((0, 0, 5), (1, 0, 4), (2, 0, 5), (2, 1, 1))),
        )
        self.assertEqual(
            heap_run(msi(), heap, [("store", 2, 1)])[1],
            ((1, 0), ((0, 0, 5), (1, 0, 4), (2, 0, 5), (2, 1, 1))),
        )

    def test_order_of_moves(self):
        table = ((0, 2, 2), 1, (
            (0, 1, 1, 0, 1, 1, (0, 1, 2), "keep", "keep"), (0, 2, -1, 0, 2, -1, (0, 1, 2), "keep", "keep"),
        ))
        heap = ((0, 0), ((1, 0, 2), (1, 1, 2), (2, 0, 1), (2, 1, 1)))
        self.assertEqual([move for move, _ in heap_moves(table, heap)], [
            ("row", 0, 0, 0), ("row", 0, 0, 1), ("row", 0, 1, 0), ("row", 0, 1, 1),
            ("row", 1, 0, -1), ("row", 1, 1, -1),
            ("store", 1, 0), ("store", 1, 1), ("store", 2, 0), ("store", 2, 1),
        ])

    def test_no_moves(self):
        self.assertEqual(heap_moves(msi(), ((0, 1), ())), [])
        self.assertEqual(heap_moves(NO_ROWS, start_heap(NO_ROWS, 9)), [])

    def test_any_number(self):
        heap = start_heap(msi(), 10 ** 30)
        self.assertEqual(
            heap_run(msi(), heap, [("row", 0, 0, -1)])[1], ((0, 1), ((0, 0, 10 ** 30 - 1), (1, 1, 1))),
        )

    def test_bad_moves(self):
        heap = ((1, 0), ((0, 0, 2), (2, 1, 1)))
        good = ("row", 3, 0, 1)
        for move in (
            ("row", 3, 1, 1), ("row", 3, 0, 0), ("row", 3, 0, -1), ("row", 6, 1, 0), ("row", 6, 1, 1), ("row", 6, 0, -1),
            ("row", -1, 1, -1), ("row", 6, 1, -2), ("x", 6, 1, -1), ("x", 2, 1),
            ("row", 0, 0, -1), ("row", 7, 0, -1), ("row", -4, 0, 1), ("row", 3, 2, 1), ("row", 3, 0, 2),
            ("row", "3", 0, 1), ("row", 3, "0", 1), ("row", 3, 0, "1"), ("row", 3, False, 1), ("row", 3, 0), (),
            ("store", 2, 0), ("store", 2, 2), ("store", 2, -1), ("store", 1, 0), ("store", 0, 0), ("store", 3, 1),
            ("store", -1, 1), ("store", 2, True), ("store", "2", 1), ("store", 2, 1, 0), ("load", 2), ("load", 2, 1),
        ):
            with self.assertRaises(BadMove) as caught:
                heap_run(msi(), heap, [move])
            self.assertEqual(caught.exception.at, 0, move)
            with self.assertRaises(BadMove) as caught:
                heap_run(msi(), heap, [("store", 2, 1), ("store", 2, 1), move, good])
            self.assertEqual(caught.exception.at, 2, move)

    def test_runs(self):
        heap = start_heap(msi(), 2)
        self.assertEqual(heap_run(msi(), heap, []), [heap])
        self.assertEqual(heap_run(msi(), heap, [("row", 2, 0, -1), ("store", 2, 1), ("row", 1, 0, 1)]), [
            heap, ((1, 1), ((0, 0, 1), (2, 1, 1))), ((1, 0), ((0, 0, 1), (2, 1, 1))), ((0, 1), ((1, 1, 2),)),
        ])

    def test_lists(self):
        moves = [("row", 2, 0, -1)]
        heap_run(msi(), start_heap(msi(), 2), moves).clear()
        heap_moves(msi(), start_heap(msi(), 2)).clear()
        self.assertEqual(moves, [("row", 2, 0, -1)])
        self.assertEqual(len(heap_run(msi(), start_heap(msi(), 2), moves)), 2)
        self.assertEqual(len(heap_moves(msi(), start_heap(msi(), 2))), 2)

    def test_greater_heaps(self):
        source = chance(9)
        for _ in range(60):
            table = random_table(source, 4, 2)
            _, heaps = random_run(source, table, start_heap(table, 3), 5)
            stand, crowd = heaps[-1]
            more = {(s, m): number for s, m, number in crowd}
            for _ in range(2):
                kind = (source.randrange(len(table[0])), source.randrange(2))
                more[kind] = more.get(kind, 0) + 1
            greater = (stand, tuple((s, m, more[s, m]) for s, m in sorted(more)))
            told = dict(heap_moves(table, greater))
            for move, (stand2, crowd2) in heap_moves(table, heaps[-1]):
                many = {(s, m): number for s, m, number in told[move][1]}
                self.assertEqual(told[move][0], stand2)
                self.assertTrue(all(number <= many.get((s, m), 0) for s, m, number in crowd2))

    def test_numbers_stay(self):
        source = chance(10)
        for table in (msi(), mesi(), mosi()):
            _, heaps = random_run(source, table, start_heap(table, 7), 60)
            for heap in heaps:
                self.assertTrue(is_heap(table, heap))
                self.assertEqual(sum(number for _, _, number in heap[1]), 7)
                self.assertFalse(is_bad(table, heap))

    def test_writer_is_alone(self):
        """[56]"""
        source = chance(11)
        for table in (msi(), mesi(), mosi()):
            _, heaps = random_run(source, table, start_heap(table, 4), 200)
            for _, crowd in heaps:
                rights = [table[0][state] for state, _, number in crowd for _ in range(number)]
                if 2 in rights:
                    self.assertEqual(sum(right > 0 for right in rights), 1)


if __name__ == "__main__":
    unittest.main()
