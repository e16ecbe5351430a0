import unittest

from coheir.errors import BadMove, BadNumber, NotState, NotTable
from coheir.ghostlead import counted, led, lifted, marks_on
from coheir.ghosts import heap_run, is_bad, start_heap
from coheir.lineplay import line_begin, play, states_on
from coheir.samples import forgetful, mesi, mosi, msi
from support import chance, random_table
from test_ghosts import random_run
from test_lineplay import EXAMPLE, random_play

WRONG = ((1,), 1, ())


def with_different_values(moves):
    """Return a play with the values 1, 2, 3 .. in its stores."""
    found, value = [], 0
    for move in moves:
        if move[0] == "store":
            value += 1
            move = ("store", move[1], value)
        found.append(move)
    return found


class MarkTests(unittest.TestCase):
    """[50]"""

    def test_example(self):
        self.assertEqual(
            marks_on(msi(), 2, EXAMPLE),
            [(1, (0, 0)), (1, (1, 0)), (0, (1, 0)), (1, (1, 1)), (1, (1, 1))],
        )

    def test_no_moves(self):
        self.assertEqual(marks_on(msi(), 0, []), [(1, ())])
        self.assertEqual(marks_on(msi(), 3, []), [(1, (0, 0, 0))])

    def test_store_makes_all_others_old(self):
        moves = [("row", 0, 0, -1), ("row", 0, 1, -1), ("row", 4, 0, -1), ("store", 0, 1), ("store", 0, 1)]
        self.assertEqual(marks_on(forgetful(msi(), 4), 3, moves)[3:], [
            (1, (1, 1, 0)), (0, (1, 0, 0)), (0, (1, 0, 0)),
        ])

    def test_marks_are_those_of_different_values(self):
        source = chance(12)
        for _ in range(150):
            table = random_table(source)
            moves = with_different_values(random_play(source, table, 3, 25)[0])
            last = 0
            for at, (state, marks) in enumerate(zip(states_on(table, 3, moves), marks_on(table, 3, moves))):
                if at > 0 and moves[at - 1][0] == "store":
                    last = moves[at - 1][2]
                self.assertEqual(marks[0], int(state[1] == last))
                self.assertEqual(marks[1], tuple(int(copy == last) for _, copy in state[2]))

    def test_marks_do_not_look_at_values(self):
        moves = [("row", 2, 0, -1), ("store", 0, 1), ("row", 3, 1, 0), ("store", 1, 1)]
        self.assertEqual(marks_on(msi(), 2, moves)[-1], (0, (0, 1)))

    def test_errors(self):
        for function in (marks_on, led):
            with self.assertRaises(NotTable):
                function(WRONG, -1, [("x", 1)])
            with self.assertRaises(BadNumber):
                function(msi(), -1, [("x", 1)])
            with self.assertRaises(BadMove) as caught:
                function(msi(), 2, EXAMPLE + [("store", 0, 1)])
            self.assertEqual(caught.exception.at, 4)


class CountTests(unittest.TestCase):
    """[51], [52]"""

    def test_counted(self):
        self.assertEqual(counted(msi(), line_begin(0), (1, ())), ((0, 1), ()))
        self.assertEqual(counted(msi(), line_begin(3), (1, (0, 0, 0))), start_heap(msi(), 3))
        state = (1, 4, ((2, 5), (0, -1), (1, 5), (0, 7), (2, 9)))
        self.assertEqual(
            counted(msi(), state, (0, (1, 0, 1, 1, 0))),
            ((1, 0), ((0, 0, 1), (0, 1, 1), (1, 1, 1), (2, 0, 1), (2, 1, 1))),
        )
        self.assertEqual(
            counted(msi(), state, (0, (1, 0, 1, 0, 1))), ((1, 0), ((0, 0, 2), (1, 1, 1), (2, 1, 2))),
        )

    def test_errors(self):
        for marks in (
            (2, (0, 0)), (-1, (0, 0)), (1, (0,)), (1, ()), (1, (0, 0, 0)), (1, (0, 2)), (1, (-1, 0)), (True, (0, 0)),
            (1, (0, True)),
        ):
            with self.assertRaises(BadNumber):
                counted(msi(), line_begin(2), marks)
        with self.assertRaises(NotState):
            counted(msi(), (2, 0, ()), (2, (9,)))
        with self.assertRaises(NotTable):
            counted(WRONG, (2, 0, ()), (2, (9,)))


class LeadTests(unittest.TestCase):
    """[58], [59]"""

    def test_example(self):
        moves = [("row", 2, 0, -1), ("store", 2, 1), ("row", 1, 0, 1)]
        self.assertEqual(led(msi(), 2, EXAMPLE), moves)
        self.assertEqual(lifted(msi(), 2, moves), [("row", 2, 0, -1), ("store", 0, 1), ("row", 1, 1, 0)])
        self.assertEqual(led(msi(), 0, []), [])
        self.assertEqual(lifted(msi(), 0, []), [])

    def test_led_over(self):
        source = chance(13)
        for _ in range(150):
            table = random_table(source)
            n = source.randint(0, 4)
            moves, states = random_play(source, table, n, 25)
            marks = marks_on(table, n, moves)
            counts = [counted(table, state, mark) for state, mark in zip(states, marks)]
            kept = [heap for heap, move in zip(counts[1:], moves) if move[0] != "load"]
            self.assertEqual(heap_run(table, start_heap(table, n), led(table, n, moves)), counts[:1] + kept)

    def test_least_numbers(self):
        source = chance(14)
        for _ in range(150):
            table = random_table(source)
            n = source.randint(1, 5)
            moves, _ = random_run(source, table, start_heap(table, n), 25)
            play_moves = lifted(table, n, moves)
            self.assertEqual(led(table, n, play_moves), moves)
            states, marks = states_on(table, n, play_moves), marks_on(table, n, play_moves)
            stores = [move[2] for move in play_moves if move[0] == "store"]
            self.assertEqual(stores, list(range(1, len(stores) + 1)))
            for at, (move, made) in enumerate(zip(moves, play_moves)):
                kinds = [(state, mark) for (state, _), mark in zip(states[at][2], marks[at][1])]
                if move[0] == "store":
                    self.assertEqual(made[1], kinds.index((move[1], move[2])))
                else:
                    row = table[2][move[1]]
                    k = kinds.index((row[1], move[2]))
                    self.assertEqual(made[2], k)
                    kinds[k] = None
                    self.assertEqual(made[3], -1 if move[3] == -1 else kinds.index((row[2], move[3])))

    def test_any_number(self):
        moves = [("row", 0, 0, -1)] * 3 + [("row", 4, 1, -1), ("store", 2, 1), ("row", 1, 0, 1), ("row", 1, 0, 1)]
        told = [
            ("row", 0, 0, -1), ("row", 0, 1, -1), ("row", 0, 2, -1), ("row", 4, 0, -1), ("store", 0, 1),
            ("row", 1, 1, 0),
        ]
        self.assertEqual(lifted(msi(), 10 ** 30, moves[:6]), told)
        self.assertEqual(lifted(msi(), 4, moves[:6]), told)
        with self.assertRaises(BadMove) as caught:
            lifted(msi(), 10 ** 30, moves)
        self.assertEqual(caught.exception.at, 6)

    def test_lifted_errors(self):
        with self.assertRaises(NotTable):
            lifted(WRONG, -1, [("x", 1)])
        with self.assertRaises(BadNumber):
            lifted(msi(), -1, [("x", 1)])
        for moves, at in (([("x", 1)], 0), ([("row", 2, 0, -1), ("store", 2, 0)], 1), ([("row", 2, 0, -1)] * 2, 1)):
            with self.assertRaises(BadMove) as caught:
                lifted(msi(), 2, moves)
            self.assertEqual(caught.exception.at, at)
        with self.assertRaises(BadMove):
            lifted(msi(), 0, [("row", 2, 0, -1)])

    def test_lists(self):
        moves, heap_moves = list(EXAMPLE), [("row", 2, 0, -1)]
        for function, told in ((marks_on, moves), (led, moves), (lifted, heap_moves)):
            first = function(msi(), 2, told)
            expected = list(first)
            first.clear()
            self.assertEqual(function(msi(), 2, told), expected)
        self.assertEqual(moves, EXAMPLE)
        self.assertEqual(heap_moves, [("row", 2, 0, -1)])

    def test_bad_is_another_value(self):
        source = chance(15)
        for table in (forgetful(msi(), 4), forgetful(mesi(), 6), forgetful(mosi(), 4), msi()):
            for _ in range(40):
                moves = with_different_values(random_play(source, table, 3, 12)[0])
                stores = [move[2] for move in moves if move[0] == "store"]
                state = play(table, 3, moves)
                heap = counted(table, state, marks_on(table, 3, moves)[-1])
                last = stores[-1] if stores else 0
                wrong = any(table[0][at] > 0 and copy != last for at, copy in state[2])
                self.assertEqual(is_bad(table, heap), wrong)


if __name__ == "__main__":
    unittest.main()
