import unittest

from coheir.backs import is_below, least_of, met_kinds, met_stands, steps_back
from coheir.bars import bad_heaps, bar, bar_within, comes, is_bar_closed, run_from
from coheir.errors import BadNumber, NoAnswer, NotHeap, NotTable, TooLarge
from coheir.ghosts import heap_moves, heap_run, is_bad, start_heap
from coheir.samples import forgetful, mesi, mosi, msi
from coheir.tables import renamed, without_rows
from support import (
    ALONE, NO_ROWS, SMALL, TOO_WIDE, TOO_WIDE_NUMBERS, WIDE, WIDE_NUMBERS, chance, random_table,
)
from test_backs import below, count, heaps_over, least
from test_ghosts import NO_HEAPS, random_run

WRONG = ((1,), 1, ())
UNMET = (((0, 0), ()), ((0, 1), ((1, 0, 1),)), ((0, 1), ((0, 0, 1), (0, 1, 1))))


def moves_to_bad(table, most):
    """Return the least number of moves to a bad heap, for all heaps of what is met with so many caches."""
    heaps = heaps_over(met_stands(table), met_kinds(table), most)
    behind = {heap: [told for _, told in heap_moves(table, heap)] for heap in heaps}
    found = {heap: 0 for heap in heaps if is_bad(table, heap)}
    moves, known = 0, -1
    while known < len(found):
        known = len(found)
        moves += 1
        latest = {heap for heap, number in found.items() if number == moves - 1}
        found.update({heap: moves for heap in heaps if heap not in found and latest.intersection(behind[heap])})
    return found


class BarTests(unittest.TestCase):
    """[100] to [103]"""

    def test_bad_heaps(self):
        self.assertEqual(bad_heaps(msi()), [
            (stand, ((state, 0, 1),)) for stand in ((0, 0), (0, 1), (1, 0), (1, 1)) for state in (1, 2)
        ])
        self.assertEqual(bad_heaps(NO_ROWS), [])
        self.assertEqual(bad_heaps(ALONE), [])
        for table in (mesi(), mosi(), SMALL):
            self.assertEqual(bar_within(table, 0), bad_heaps(table))

    def test_small_tables_by_the_words(self):
        source = chance(31)
        tables = [msi(), SMALL, forgetful(msi(), 2)]
        while len(tables) < 25:
            table = random_table(source, 3, 2, 8)
            if bad_heaps(table) and len(met_kinds(table)) <= 6:
                tables.append(table)
        for table in tables:
            told = moves_to_bad(table, 3)
            for moves in range(8):
                expected = least([heap for heap, number in told.items() if number <= moves])
                few = [heap for heap in bar_within(table, moves) if count(heap) <= 3]
                self.assertEqual(few, expected, (table, moves))
            self.assertEqual([heap for heap in bar(table) if count(heap) <= 3], least(list(told)))
            for heap in source.sample(sorted(told), min(8, len(told))):
                self.assertTrue(comes(table, heap))
                self.assertEqual(len(run_from(table, heap)), told[heap])
            for heap in heaps_over(met_stands(table), met_kinds(table), 2):
                if heap not in told and source.random() < 0.05:
                    self.assertFalse(comes(table, heap))

    def test_within_by_steps_back(self):
        for table in (msi(), mesi(), forgetful(mosi(), 4)):
            heaps = bad_heaps(table)
            for moves in range(6):
                self.assertEqual(bar_within(table, moves), heaps)
                heaps = least_of(heaps + [back for heap in heaps for back in steps_back(table, heap)])

    def test_last_one_is_the_bar(self):
        source = chance(32)
        for table in [msi(), mesi(), mosi(), NO_ROWS] + [random_table(source, 4, 3, 10) for _ in range(20)]:
            self.assertEqual(bar_within(table, 200), bar(table))

    def test_bar_is_least(self):
        for table in (msi(), mesi(), mosi()):
            self.assertEqual(least_of(bar(table)), bar(table))

    def test_closed(self):
        source = chance(33)
        asked = 0
        while asked < 30:
            table = random_table(source, 4, 2, 10)
            heaps = bar(table)
            self.assertTrue(is_bar_closed(table, heaps))
            if heaps:
                asked += 1
                at = source.randrange(len(heaps))
                self.assertFalse(is_bar_closed(table, heaps[:at] + heaps[at + 1:]))
                self.assertTrue(is_bar_closed(table, heaps[::-1] + heaps[at:] + heaps))

    def test_closed_by_the_words(self):
        source = chance(34)
        answers = {True: 0, False: 0}
        while min(answers.values()) < 40:
            table = random_table(source, 3, 2, 5)
            every = heaps_over(met_stands(table), met_kinds(table), 2)
            heaps = source.sample(bar(table), len(bar(table)))
            heaps = [heap for heap in heaps if source.random() < 0.9] + source.sample(every, min(4, len(every)))
            asked = bad_heaps(table) + [back for heap in heaps for back in steps_back(table, heap)]
            expected = all(any(below(one, heap) for one in heaps) for heap in asked)
            answers[expected] += 1
            self.assertIs(is_bar_closed(table, heaps), expected)

    def test_closed_with_nothing(self):
        self.assertTrue(is_bar_closed(NO_ROWS, []))
        self.assertFalse(is_bar_closed(msi(), []))
        nobody = [(stand, ()) for stand in met_stands(msi())]
        self.assertTrue(is_bar_closed(msi(), nobody))
        for at in range(4):
            self.assertFalse(is_bar_closed(msi(), nobody[:at] + nobody[at + 1:]))

    def test_closed_with_any_number(self):
        for number in (2, 60, 10 ** 30):
            heaps = bar(msi()) + [((1, 0), ((0, 0, number), (1, 1, number + 1), (2, 1, number)))]
            self.assertTrue(is_bar_closed(msi(), heaps))
        table = ((0, 0, 1, 2), 1, ((0, 0, -1, 0, 1, -1, (0, 0, 0, 0), "keep", "keep"),
                                   (0, 0, -1, 0, 2, -1, (0, 1, 2, 3), "home", "keep"),
                                   (0, 0, -1, 0, 3, -1, (1, 1, 1, 3), "home", "keep")))
        heaps = bar(table)
        self.assertTrue(is_bar_closed(table, heaps + [((0, 1), ((0, 0, 10 ** 30), (2, 0, 1)))]))
        far = [((0, 1), ((1, 0, 10 ** 30),))]
        self.assertIs(is_bar_closed(table, heaps + far), is_bar_closed(table, heaps + [((0, 1), ((1, 0, 60),))]))

    def test_lists_are_new(self):
        for call in (
            lambda: bar(msi()), lambda: bar_within(msi(), 1), lambda: bad_heaps(msi()),
            lambda: run_from(forgetful(msi(), 4), start_heap(msi(), 2)),
        ):
            first = call()
            expected = list(first)
            first.clear()
            self.assertEqual(call(), expected)

    def test_lists_stay(self):
        heaps = bar(msi())[::-1]
        given = list(heaps)
        is_bar_closed(msi(), heaps)
        self.assertEqual(heaps, given)


class ExampleTests(unittest.TestCase):
    """[110]"""

    def test_msi(self):
        heaps = bar(msi())
        self.assertEqual(len(heaps), 20)
        for stand, crowd in heaps:
            self.assertFalse(stand == (0, 1) and all(entry[:2] == (0, 0) for entry in crowd))

    def test_forgetful(self):
        heaps = bar(forgetful(msi(), 4))
        self.assertEqual(len(heaps), 30)
        self.assertIn(((0, 1), ((0, 0, 2),)), heaps)


class RunTests(unittest.TestCase):
    def test_comes(self):
        for table in (msi(), mesi(), mosi()):
            for n in (0, 1, 2, 10 ** 30):
                self.assertIs(comes(table, start_heap(table, n)), False)
        table = forgetful(msi(), 4)
        self.assertEqual([comes(table, start_heap(table, n)) for n in (0, 1, 2, 3, 10 ** 30)],
                         [False, False, True, True, True])

    def test_runs_lead_to_bad_heaps(self):
        for table in (forgetful(msi(), 4), forgetful(mosi(), 3), forgetful(mesi(), 6), msi(), mesi()):
            for heap in bar(table) + [start_heap(table, 2), start_heap(table, 10 ** 20)]:
                if comes(table, heap):
                    heaps = heap_run(table, heap, run_from(table, heap))
                    self.assertTrue(is_bad(table, heaps[-1]))
                    self.assertFalse(any(is_bad(table, told) for told in heaps[:-1]))
                    if len(heaps) > 1:
                        self.assertFalse(any(is_below(one, heap) for one in bar_within(table, len(heaps) - 2)))

    def test_bad_ones_need_no_move(self):
        for heap in bad_heaps(msi()):
            self.assertEqual(run_from(msi(), heap), [])

    def test_made_by_chance(self):
        source = chance(35)
        for _ in range(40):
            table = random_table(source, 4, 2, 10)
            heap = random_run(source, table, start_heap(table, 3), 6)[1][-1]
            if comes(table, heap):
                moves = run_from(table, heap)
                self.assertTrue(is_bad(table, heap_run(table, heap, moves)[-1]))
            else:
                with self.assertRaises(NoAnswer):
                    run_from(table, heap)
                self.assertFalse(any(is_bad(table, told) for told in random_run(source, table, heap, 20)[1]))


class ErrorTests(unittest.TestCase):
    def test_no_table(self):
        for function, arguments in (
            (bad_heaps, ()), (bar, ()), (bar_within, (-1,)), (is_bar_closed, ([NO_HEAPS[0]],)),
            (comes, (NO_HEAPS[0],)), (run_from, (NO_HEAPS[0],)),
        ):
            with self.assertRaises(NotTable):
                function(WRONG, *arguments)

    def test_numbers_of_moves(self):
        for most in (0, 1, 200):
            bar_within(msi(), most)
        for most in (-1, 201, -10 ** 30, 10 ** 30):
            with self.assertRaises(BadNumber):
                bar_within(msi(), most)

    def test_no_heap(self):
        for heap in NO_HEAPS:
            for function in (comes, run_from):
                with self.assertRaises(NotHeap):
                    function(msi(), heap)
            with self.assertRaises(NotHeap):
                is_bar_closed(msi(), bar(msi()) + [heap])

    def test_not_met(self):
        for heap in UNMET:
            for function in (comes, run_from):
                with self.assertRaises(NotHeap):
                    function(NO_ROWS, heap)
            with self.assertRaises(NotHeap):
                is_bar_closed(NO_ROWS, [heap])

    def test_no_answer(self):
        with self.assertRaises(NoAnswer):
            run_from(msi(), start_heap(msi(), 5))
        with self.assertRaises(NoAnswer):
            run_from(NO_ROWS, start_heap(NO_ROWS, 0))


class LargeTests(unittest.TestCase):
    def test_a_thousand_heaps(self):
        for moves in (0, 1, 2, 5, 7, 8):
            self.assertEqual(len(bar_within(WIDE, moves)), WIDE_NUMBERS[moves])
        self.assertEqual(len(bar(WIDE)), WIDE_NUMBERS[-1])

    def test_one_more(self):
        for moves in range(4):
            self.assertEqual(len(bar_within(TOO_WIDE, moves)), TOO_WIDE_NUMBERS[moves])
        start = start_heap(TOO_WIDE, 2)
        for function, arguments in (
            (bar_within, (4,)), (bar_within, (200,)), (bar, ()), (comes, (start,)), (run_from, (start,)),
            (run_from, (bad_heaps(TOO_WIDE)[0],)), (comes, (bad_heaps(TOO_WIDE)[0],)),
        ):
            with self.assertRaises(TooLarge):
                function(TOO_WIDE, *arguments)

    def test_other_errors_come_first(self):
        with self.assertRaises(BadNumber):
            bar_within(TOO_WIDE, 201)
        for function in (comes, run_from):
            with self.assertRaises(NotHeap):
                function(TOO_WIDE, ((2, 0), ()))

    def test_what_looks_at_no_bar(self):
        self.assertEqual(len(bad_heaps(TOO_WIDE)), 8)
        self.assertIs(is_bar_closed(TOO_WIDE, []), False)
        self.assertIs(is_bar_closed(TOO_WIDE, [(stand, ()) for stand in met_stands(TOO_WIDE)]), True)


class ChangeTests(unittest.TestCase):
    """[108], [109]"""

    def test_without_a_row(self):
        source = chance(36)
        tables = [msi(), forgetful(msi(), 4), mosi()] + [random_table(source, 4, 2, 8) for _ in range(20)]
        for table in tables:
            heaps = bar(table)
            for number in range(len(table[2])):
                for heap in bar(without_rows(table, [number])):
                    self.assertTrue(any(is_below(one, heap) for one in heaps))

    def test_other_numbers(self):
        source = chance(37)
        for table in [msi(), mesi()] + [random_table(source, 4, 3, 8) for _ in range(20)]:
            states = [0] + source.sample(range(1, len(table[0])), len(table[0]) - 1)
            homes = [0] + source.sample(range(1, table[1]), table[1] - 1)
            expected = sorted(
                ((homes[h], f), tuple(sorted((states[s], m, number) for s, m, number in crowd)))
                for (h, f), crowd in bar(table)
            )
            self.assertEqual(bar(renamed(table, tuple(states), tuple(homes))), expected)

    def test_other_order_of_rows(self):
        source = chance(38)
        for table in [msi(), mosi()] + [random_table(source, 4, 3, 8) for _ in range(20)]:
            rows = tuple(source.sample(table[2], len(table[2])))
            self.assertEqual(bar((table[0], table[1], rows)), bar(table))


if __name__ == "__main__":
    unittest.main()
