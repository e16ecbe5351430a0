"""Bars of split tables, [436] and [437]"""

import unittest

from coheir.bars import bad_heaps, bar, bar_within, comes, is_bar_closed, run_from
from coheir.coherence import fewest_caches
from coheir.errors import BadNumber, NoAnswer, NotHeap, NotTable, TooLarge
from coheir.samples import msi
from coheir.splitbacks import split_backs, split_met
from coheir.splitbars import (
    is_split_bar_closed, split_bad_heaps, split_bar, split_bar_within, split_comes, split_run_from,
)
from coheir.splitghosts import split_heap_run, split_start
from coheir.splitsamples import split_forgetful, split_msi
from coheir.splittables import split_of, split_renamed, split_without
from splits import (
    ASKING, BOTH, CARELESS, NO_SPLIT_ROWS, SELF, SPLIT_ALONE, TOO_WIDE_SPLIT, TOO_WIDE_SPLIT_NUMBERS, WIDE_SPLIT,
    WIDE_SPLIT_NUMBERS, Forward, counts, heaps_over, is_bad_by_words,
    is_below_by_words, layers_by_words, least, least_bad_by_words, nearby_split, random_heap_run, random_split,
)
from support import chance, random_table
from test_splitghosts import NO_SPLIT_HEAPS

WRONG = ((1,), 1, 1, ())
BIG = 10 ** 30
UNMET = (((0, 0), (), ()), ((0, 1), ((1, 0, 1),), ()), ((0, 1), ((0, 0, 1), (0, 1, 1)), ()), ((0, 1), (), ((0, 0, 1),)))
FORGETFUL = split_forgetful(split_msi(), 4)


def is_above_one(heaps, heap):
    return any(is_below_by_words(one, heap) for one in heaps)


class BarTests(unittest.TestCase):
    """[436], [101] to [103]"""

    def test_example(self):
        """[437]"""
        self.assertEqual(len(split_bar(ASKING)), 32)
        self.assertEqual(split_bar(ASKING), layers_by_words(ASKING, 12)[-1])

    def test_bad_heaps(self):
        self.assertEqual(split_bad_heaps(split_msi()), [
            ((home, mark), ((state, 0, 1),), ()) for home in range(5) for mark in (0, 1) for state in (1, 2)
        ])
        for table in (NO_SPLIT_ROWS, SPLIT_ALONE):
            self.assertEqual((split_bad_heaps(table), split_bar(table)), ([], []))
        source = chance(1)
        for table in [ASKING, CARELESS, BOTH, SELF] + [random_split(source) for _ in range(60)]:
            self.assertEqual(split_bad_heaps(table), least_bad_by_words(table))
            self.assertEqual(split_bar_within(table, 0), least_bad_by_words(table))

    def test_layers_by_the_words(self):
        source = chance(2)
        for table in [ASKING, CARELESS, SELF] + [random_split(source, 4, 2, 3, 10) for _ in range(60)]:
            for moves, heaps in enumerate(layers_by_words(table, 5)):
                self.assertEqual(split_bar_within(table, moves), heaps)

    def test_known_one(self):
        bars = layers_by_words(split_msi(), 4)
        for moves, heaps in enumerate(bars):
            self.assertEqual(split_bar_within(split_msi(), moves), heaps)

    def test_forward(self):
        """A heap comes to a bad one with so many moves exactly if it is above one of the bar within so many"""
        source = chance(3)
        found = {True: 0, False: 0}
        tables = [ASKING, CARELESS, SELF]
        while len(tables) < 25:
            table = random_split(source, 3, 2, 2, 6)
            if split_bad_heaps(table):
                tables.append(table)
        for table in tables:
            forward = Forward(table)
            heaps = heaps_over(*split_met(table), 2, 2)
            bars = [split_bar_within(table, moves) for moves in range(5)]
            for heap in source.sample(heaps, min(40, len(heaps))):
                for moves, told in enumerate(bars):
                    expected = forward.comes(heap, moves)
                    found[expected] += 1
                    self.assertIs(is_above_one(told, heap), expected)
        self.assertGreater(min(found.values()), 300)

    def test_last_one_is_the_bar(self):
        source = chance(4)
        tables = [split_msi(), FORGETFUL, ASKING, CARELESS, BOTH, NO_SPLIT_ROWS]
        for table in tables + [random_split(source, 5, 3, 4, 14) for _ in range(30)]:
            heaps = split_bar(table)
            self.assertEqual(split_bar_within(table, 200), heaps)
            self.assertEqual(least(heaps), heaps)
            for heap in heaps[::5]:
                for back in split_backs(table, heap):
                    self.assertTrue(is_above_one(heaps, back))

    def test_closed(self):
        source = chance(5)
        asked = 0
        while asked < 40:
            table = random_split(source, 4, 2, 3, 10)
            heaps = split_bar(table)
            self.assertIs(is_split_bar_closed(table, heaps), True)
            if heaps:
                asked += 1
                at = source.randrange(len(heaps))
                self.assertIs(is_split_bar_closed(table, heaps[:at] + heaps[at + 1:]), False)
                self.assertIs(is_split_bar_closed(table, heaps[::-1] + heaps[at:] + heaps), True)

    def test_closed_by_the_words(self):
        source = chance(6)
        answers = {True: 0, False: 0}
        while min(answers.values()) < 40:
            table = random_split(source, 3, 2, 2, 6)
            every = heaps_over(*split_met(table), 2, 1)
            heaps = source.sample(split_bar(table), len(split_bar(table)))
            heaps = [heap for heap in heaps if source.random() < 0.9] + source.sample(every, min(3, len(every)))
            given = list(heaps)
            asked = split_bad_heaps(table) + [back for heap in heaps for back in split_backs(table, heap)]
            expected = all(is_above_one(heaps, heap) for heap in asked)
            answers[expected] += 1
            self.assertIs(is_split_bar_closed(table, heaps), expected)
            self.assertEqual(heaps, given)

    def test_closed_with_nothing(self):
        self.assertIs(is_split_bar_closed(NO_SPLIT_ROWS, []), True)
        self.assertIs(is_split_bar_closed(ASKING, []), False)
        nobody = [(stand, (), ()) for stand in split_met(ASKING)[0]]
        self.assertIs(is_split_bar_closed(ASKING, nobody), True)
        for at in range(4):
            self.assertIs(is_split_bar_closed(ASKING, nobody[:at] + nobody[at + 1:]), False)

    def test_closed_with_any_number(self):
        for number in (2, 60, BIG):
            more = ((1, 0), ((0, 0, number), (0, 1, number + 1), (2, 1, number)), ((0, 0, number), (1, 0, number)))
            self.assertIs(is_split_bar_closed(ASKING, split_bar(ASKING) + [more]), True)
            # Here no cache is left that could be bad: the steps back by the home alone are not above the bar.
            less = ((1, 0), (), ((0, 0, number),))
            self.assertIs(is_split_bar_closed(ASKING, split_bar(ASKING) + [less]), False)

    def test_lists_are_new(self):
        start = split_start(FORGETFUL, 2)
        for call in (lambda: split_bar(ASKING), lambda: split_bar_within(ASKING, 1), lambda: split_bad_heaps(ASKING),
                     lambda: split_run_from(FORGETFUL, start)):
            first = call()
            expected = list(first)
            self.assertTrue(expected)
            first.clear()
            self.assertEqual(call(), expected)


class RunTests(unittest.TestCase):
    def test_comes(self):
        for table in (split_msi(), ASKING):
            for n in (0, 1, 2, BIG):
                self.assertIs(split_comes(table, split_start(table, n)), False)
        self.assertEqual([split_comes(FORGETFUL, split_start(FORGETFUL, n)) for n in (0, 1, 2, BIG)], [False, False, True, True])
        self.assertEqual([split_comes(SELF, split_start(SELF, n)) for n in (0, 1, BIG)], [False, True, True])

    def test_with_messages_under_way(self):
        """A message more may be what is missing"""
        self.assertIs(split_comes(split_msi(), ((1, 1), ((0, 0, 1), (2, 1, 1)), ())), False)
        self.assertIs(split_comes(split_msi(), ((1, 0), ((0, 0, 1), (2, 1, 1)), ((2, 0, 1),))), True)
        self.assertIs(split_comes(split_msi(), ((3, 0), ((2, 1, 1), (4, 0, 1)), ((1, 0, 1),))), True)
        self.assertIs(split_comes(split_msi(), ((3, 0), ((2, 1, 1), (4, 0, 1)), ())), False)
        self.assertIs(split_comes(split_msi(), ((3, 0), ((2, 1, 1),), ((1, 0, 1),))), False)
        self.assertIs(split_comes(split_msi(), ((3, 0), (), ((1, 0, 1),))), False)

    def test_runs_lead_to_bad_heaps(self):
        source = chance(7)
        for table in (FORGETFUL, ASKING, CARELESS, BOTH, SELF):
            bars = [split_bar_within(table, moves) for moves in range(9)]
            told = split_bar(table)
            for heap in source.sample(told, min(8, len(told))) + [split_start(table, 2), split_start(table, BIG)]:
                if is_above_one(told, heap):
                    self.assertIs(split_comes(table, heap), True)
                    heaps = split_heap_run(table, heap, split_run_from(table, heap))
                    self.assertTrue(is_bad_by_words(table, heaps[-1]))
                    self.assertFalse(any(is_bad_by_words(table, told) for told in heaps[:-1]))
                    if 1 < len(heaps) < 11:
                        self.assertFalse(is_above_one(bars[len(heaps) - 2], heap))

    def test_as_few_as_possible(self):
        source = chance(8)
        told = []
        tables = [FORGETFUL, CARELESS] + [nearby_split(source, ASKING, 2) for _ in range(40)]
        for table in tables + [random_split(source, 3, 2, 2, 7) for _ in range(30)]:
            forward = Forward(table)
            heap = random_heap_run(source, table, split_start(table, 2), source.randint(0, 3))[1][-1]
            if split_comes(table, heap):
                moves = split_run_from(table, heap)
                if len(moves) < 6:
                    told.append(len(moves))
                    self.assertTrue(forward.comes(heap, len(moves)))
                    self.assertFalse(moves and forward.comes(heap, len(moves) - 1))
            else:
                with self.assertRaises(NoAnswer):
                    split_run_from(table, heap)
                self.assertFalse(forward.comes(heap, 3))
        self.assertGreater(len([length for length in told if length > 2]), 3)

    def test_bad_ones_need_no_move(self):
        for heap in split_bad_heaps(ASKING):
            self.assertEqual(split_run_from(ASKING, heap), [])


class ErrorTests(unittest.TestCase):
    def test_no_table(self):
        for table in (WRONG, msi()):
            for function, arguments in (
                (split_bad_heaps, ()), (split_bar, ()), (split_bar_within, (-1,)), (is_split_bar_closed, ([()],)),
                (split_comes, ((),)), (split_run_from, ((),)), (is_split_bar_closed, ([],)),
            ):
                with self.assertRaises(NotTable):
                    function(table, *arguments)

    def test_numbers_of_moves(self):
        for most in (0, 1, 200):
            split_bar_within(ASKING, most)
        for most in (-1, 201, -BIG, BIG):
            with self.assertRaises(BadNumber):
                split_bar_within(ASKING, most)

    def test_no_heap(self):
        heaps = split_bad_heaps(split_msi())
        for heap in NO_SPLIT_HEAPS:
            for function in (split_comes, split_run_from):
                with self.assertRaises(NotHeap):
                    function(split_msi(), heap)
            with self.assertRaises(NotHeap):
                is_split_bar_closed(split_msi(), heaps + [heap])

    def test_not_met(self):
        for heap in UNMET:
            for function in (split_comes, split_run_from):
                with self.assertRaises(NotHeap):
                    function(NO_SPLIT_ROWS, heap)
            with self.assertRaises(NotHeap):
                is_split_bar_closed(NO_SPLIT_ROWS, [((0, 1), ((0, 0, 1),), ()), heap])

    def test_no_answer(self):
        for table in (split_msi(), NO_SPLIT_ROWS):
            for n in (0, 5):
                with self.assertRaises(NoAnswer):
                    split_run_from(table, split_start(table, n))


class LargeTests(unittest.TestCase):
    """TooLarge exactly where the bar within some number of moves has more than 1000 heaps"""

    def test_a_thousand_heaps(self):
        for moves in (0, 1, 2, 7, 8, 9, 10):
            self.assertEqual(len(split_bar_within(WIDE_SPLIT, moves)), WIDE_SPLIT_NUMBERS[moves])
        self.assertEqual(len(split_bar(WIDE_SPLIT)), WIDE_SPLIT_NUMBERS[-1])

    def test_one_more(self):
        for moves in (0, 1, 5, 8, 9):
            self.assertEqual(len(split_bar_within(TOO_WIDE_SPLIT, moves)), TOO_WIDE_SPLIT_NUMBERS[moves])
        start = split_start(TOO_WIDE_SPLIT, 2)
        bad = split_bad_heaps(TOO_WIDE_SPLIT)[0]
        for function, arguments in (
            (split_bar_within, (10,)), (split_bar_within, (200,)), (split_bar, ()), (split_comes, (start,)),
            (split_run_from, (start,)), (split_run_from, (bad,)), (split_comes, (bad,)),
        ):
            with self.assertRaises(TooLarge):
                function(TOO_WIDE_SPLIT, *arguments)

    def test_other_errors_come_first(self):
        for most in (-1, 201):
            with self.assertRaises(BadNumber):
                split_bar_within(TOO_WIDE_SPLIT, most)
        for function in (split_comes, split_run_from):
            for heap in (((2, 0), (), ()), ((0, 1), ((9, 0, 1),), ()), ((0, 1), (), ((0, 0, 0),))):
                with self.assertRaises(NotHeap):
                    function(TOO_WIDE_SPLIT, heap)

    def test_what_looks_at_no_bar(self):
        self.assertEqual(len(split_bad_heaps(TOO_WIDE_SPLIT)), TOO_WIDE_SPLIT_NUMBERS[0])
        nobody = [(stand, (), ()) for stand in split_met(TOO_WIDE_SPLIT)[0]]
        self.assertIs(is_split_bar_closed(TOO_WIDE_SPLIT, nobody), True)
        self.assertIs(is_split_bar_closed(TOO_WIDE_SPLIT, []), False)


class AlikeTests(unittest.TestCase):
    """[446], [108], [109]"""

    def test_without_messages(self):
        """The bars of the table, with the empty net"""
        source = chance(9)
        for _ in range(60):
            table = random_table(source, 5, 3, 14)
            table = (table[0], table[1], tuple(row for row in table[2] if row[2] == -1))
            split = split_of(table)
            self.assertEqual(split_bar(split), [heap + ((),) for heap in bar(table)])
            self.assertEqual(split_bad_heaps(split), [heap + ((),) for heap in bad_heaps(table)])
            for moves in range(4):
                self.assertEqual(split_bar_within(split, moves), [heap + ((),) for heap in bar_within(table, moves)])
            heaps = source.sample(split_bar(split), len(split_bar(split)))[1:]
            self.assertIs(is_split_bar_closed(split, heaps), is_bar_closed(table, [heap[:2] for heap in heaps]))
            for n in (1, 3):
                start = split_start(split, n)
                self.assertIs(split_comes(split, start), comes(table, start[:2]))
                if split_comes(split, start):
                    self.assertEqual(len(split_run_from(split, start)), len(run_from(table, start[:2])))
            self.assertIs(split_comes(split, split_start(split, BIG)), fewest_caches(table) is not None)

    def test_without_a_row(self):
        source = chance(10)
        for table in [ASKING, CARELESS] + [nearby_split(source, split_msi()) for _ in range(2)]:
            heaps = split_bar(table)
            for number in range(len(table[3])):
                for heap in split_bar(split_without(table, [number])):
                    self.assertTrue(is_above_one(heaps, heap))

    def test_other_numbers(self):
        source = chance(11)
        for table in [ASKING, split_msi()] + [random_split(source, 4, 3, 4, 10) for _ in range(20)]:
            states = [0] + source.sample(range(1, len(table[0])), len(table[0]) - 1)
            homes = [0] + source.sample(range(1, table[1]), table[1] - 1)
            messages = source.sample(range(table[2]), table[2])
            expected = sorted(
                ((homes[h], f), tuple(sorted((states[s], m, number) for s, m, number in crowd)),
                 tuple(sorted((messages[s], m, number) for s, m, number in net)))
                for (h, f), crowd, net in split_bar(table))
            self.assertEqual(split_bar(split_renamed(table, tuple(states), tuple(homes), tuple(messages))), expected)

    def test_numbers_of_caches_and_messages(self):
        """Heaps of a bar need no more of both than moves"""
        for moves in range(5):
            for heap in split_bar_within(split_msi(), moves):
                self.assertLessEqual(max(counts(heap)), moves + 1)


if __name__ == "__main__":
    unittest.main()
