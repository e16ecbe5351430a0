"""From plays of split tables to heaps and back, [420], [424] and [425]"""

import unittest

from coheir.errors import BadMove, BadNumber, NotState, NotTable
from coheir.ghostlead import led, lifted, marks_on
from coheir.lineplay import moves_in, line_begin, line_behind
from coheir.samples import msi
from coheir.splitghosts import split_heap_run, split_start
from coheir.splitlead import split_counted, split_led, split_lifted, split_marks_on
from coheir.splitplay import split_begin, split_play, split_states_on
from coheir.splitsamples import split_forgetful, split_msi
from coheir.splittables import split_of
from splits import (
    ASKING, BOTH, CARELESS, SELF, Play, is_bad_by_words, played, random_heap_run, random_moves, random_split, steps_from,
)
from support import chance, random_table
from test_splitplay import EXAMPLE

WRONG = ((1,), 1, 1, ())
BIG = 10 ** 30
# One cache may write at once, sends its copy, and takes one; the home sends its own.
MARKS = ((0, 2, 2), 1, 2, (
    (0, 0, -1, 0, 1, (0, 1, 2), (), "home", "keep"),
    (-1, 1, -1, -1, 1, (0, 1, 2), ((0, "own"),), "keep", "keep"),
    (-1, 1, 0, -1, 2, (0, 1, 2), (), "got", "keep"),
    (0, -1, -1, 0, -1, (0, 1, 2), ((1, "home"), (0, "home")), "keep", "keep"),
    (-1, 2, -1, -1, 1, (0, 1, 2), (), "keep", "keep"),
))


def new_values(source, table, n, length):
    """Return a play by chance with the values 1, 2, 3 .. in its stores."""
    play, moves, value = Play(table, n), [], 0
    for _ in range(length):
        allowed = play.moves() + [("store", k, value + 1) for k in play.rights(2)]
        if len(play.net) > 6:
            allowed = [move for move in allowed if move[0] == "row" and move[3] != -1] or allowed
        if allowed:
            moves.append(source.choice(allowed))
            value += moves[-1][0] == "store"
            play.step(moves[-1])
    return moves


class MarkTests(unittest.TestCase):
    """[420]"""

    def test_example(self):
        self.assertEqual(split_marks_on(split_msi(), 2, EXAMPLE), [
            (1, (0, 0), ()), (1, (0, 0), (0,)), (1, (0, 0), (1,)), (1, (1, 0), ()), (0, (1, 0), ()), (0, (1, 0), (1,)),
        ])

    def test_no_moves(self):
        self.assertEqual(split_marks_on(split_msi(), 0, []), [(1, (), ())])
        self.assertEqual(split_marks_on(split_msi(), 3, []), [(1, (0, 0, 0), ())])
        self.assertEqual(split_marks_on(CARELESS, 0, [("row", 0, -1, -1)] * 2), [(1, (), ()), (1, (), (1,)), (1, (), (1, 1))])

    def test_store_makes_all_others_old(self):
        moves = [("row", 3, -1, -1), ("row", 0, 0, -1), ("row", 0, 1, -1), ("row", 1, 1, -1), ("load", 0), ("store", 0, 3)]
        self.assertEqual(split_marks_on(MARKS, 2, moves)[-2:], [(1, (1, 1), (1, 1, 1)), (0, (1, 0), (0, 0, 0))])

    def test_equal_messages(self):
        """They differ in their marks alone: the old one stands first, and is taken by the lesser place"""
        moves = [("row", 0, 0, -1), ("store", 0, 5), ("row", 1, 0, -1), ("store", 0, 5), ("row", 1, 0, -1)]
        self.assertEqual(split_play(MARKS, 1, moves)[3], ((0, 5), (0, 5)))
        self.assertEqual(split_marks_on(MARKS, 1, moves)[-1], (0, (1,), (0, 1)))
        self.assertEqual(split_marks_on(MARKS, 1, moves + [("row", 2, 0, 0)])[-1], (0, (0,), (1,)))
        self.assertEqual(split_marks_on(MARKS, 1, moves + [("row", 2, 0, 1)])[-1], (0, (1,), (0,)))
        self.assertEqual(split_led(MARKS, 1, moves + [("row", 2, 0, 0)])[-1], ("row", 2, 1, 0))
        self.assertEqual(split_led(MARKS, 1, moves + [("row", 2, 0, 1)])[-1], ("row", 2, 1, 1))
        moves += [("row", 2, 0, 1), ("row", 4, 0, -1), ("row", 1, 0, -1), ("row", 1, 0, -1)]
        self.assertEqual(split_marks_on(MARKS, 1, moves)[-1], (0, (1,), (0, 1, 1)))

    def test_one_by_one(self):
        source = chance(1)
        for table in [split_msi(), ASKING, SELF, CARELESS, BOTH, MARKS] * 8 + [random_split(source) for _ in range(150)]:
            n = source.randint(0, 4)
            moves = random_moves(source, table, n, 25)
            expected = [played(table, n, moves[:at]).marks() for at in range(len(moves) + 1)]
            self.assertEqual(split_marks_on(table, n, moves), expected)

    def test_marks_are_those_of_different_values(self):
        source = chance(2)
        for table in [split_forgetful(split_msi(), 4), MARKS, BOTH] * 10 + [random_split(source, 4, 2, 3, 12) for _ in range(80)]:
            moves = new_values(source, table, 3, 25)
            last = 0
            for at, (state, marks) in enumerate(zip(split_states_on(table, 3, moves), split_marks_on(table, 3, moves))):
                if at > 0 and moves[at - 1][0] == "store":
                    last = moves[at - 1][2]
                self.assertEqual(marks, (int(state[1] == last), *(tuple(int(copy == last) for _, copy in part) for part in state[2:])))


class CountTests(unittest.TestCase):
    """[421]"""

    def test_counted(self):
        state = (4, 0, ((0, 5), (2, -1), (0, 7), (0, 5)), ((2, 5), (2, 5), (3, 1)))
        self.assertEqual(split_counted(split_msi(), state, (1, (1, 0, 0, 1), (0, 1, 1))),
                         ((4, 1), ((0, 0, 1), (0, 1, 2), (2, 0, 1)), ((2, 0, 1), (2, 1, 1), (3, 1, 1))))
        self.assertEqual(split_counted(split_msi(), state, (0, (1, 1, 1, 1), (1, 0, 0))),
                         ((4, 0), ((0, 1, 3), (2, 1, 1)), ((2, 0, 1), (2, 1, 1), (3, 0, 1))))
        self.assertEqual(split_counted(split_msi(), split_begin(0), (0, (), ())), ((0, 0), (), ()))

    def test_one_by_one(self):
        source = chance(3)
        for _ in range(100):
            table, n = random_split(source), source.randint(0, 4)
            moves = random_moves(source, table, n, 20)
            told = zip(split_states_on(table, n, moves), split_marks_on(table, n, moves))
            self.assertEqual([split_counted(table, *pair) for pair in told],
                             [played(table, n, moves[:at]).heap() for at in range(len(moves) + 1)])

    def test_errors(self):
        state = (0, 0, ((0, -1), (1, 0)), ((0, 1),))
        right = (1, (0, 1), (1,))
        self.assertTrue(split_counted(split_msi(), state, right))
        for marks in ((2, (0, 1), (1,)), (-1, (0, 1), (1,)), (1, (0, 2), (1,)), (1, (-1, 0), (1,)), (1, (0, 1), (2,)),
                      (1, (0, 1), (-1,)), (1, (0,), (1,)), (1, (0, 1, 0), (1,)), (1, (0, 1), ()), (1, (0, 1), (1, 1)),
                      (1, (), (1,)), (1, (0,), (1, 1)), (1, (0, 1, 1), ()), ("1", (0, 1), (1,)), (1, (0, "1"), (1,))):
            with self.assertRaises(BadNumber):
                split_counted(split_msi(), state, marks)
            for wrong in ((5, 0, (), ()), state[:3], (0, -2, (), ()), (0, 0, (), ((1, 0), (0, 0)))):
                with self.assertRaises(NotState):
                    split_counted(split_msi(), wrong, marks)
            with self.assertRaises(NotTable):
                split_counted(WRONG, (), marks)


class LedTests(unittest.TestCase):
    """[424]"""

    def test_example(self):
        self.assertEqual(split_led(split_msi(), 2, EXAMPLE), [
            ("row", 3, 0, -1), ("row", 4, -1, 0), ("row", 5, 0, 1), ("store", 2, 1), ("row", 7, 1, -1),
        ])

    def test_loads_are_left_out(self):
        moves = EXAMPLE[:4] + [("load", 0), ("load", 0)] + EXAMPLE[4:]
        self.assertEqual(split_led(split_msi(), 2, moves), split_led(split_msi(), 2, EXAMPLE))

    def test_runs(self):
        """The heaps of the run that is led over count what the play has behind each move"""
        source = chance(4)
        for table in [split_msi(), ASKING, BOTH, MARKS] * 8 + [random_split(source) for _ in range(120)]:
            n = source.randint(0, 4)
            moves = random_moves(source, table, n, 25)
            heaps = split_heap_run(table, split_start(table, n), split_led(table, n, moves))
            ends = [at + 1 for at, move in enumerate(moves) if move[0] != "load"]
            self.assertEqual(heaps, [played(table, n, moves[:at]).heap() for at in [0] + ends])

    def test_errors(self):
        for function in (split_marks_on, split_led):
            for table in (WRONG, msi()):
                with self.assertRaises(NotTable):
                    function(table, -1, [("x", 1)])
            with self.assertRaises(BadNumber):
                function(split_msi(), -1, [("x", 1)])
            for wrong in (("store", 0, 1), ("row", 5, 0, 0), ("load", 1), ("row", 8, -1, 1), ("x", 1), ("row", 8, 0, 0)):
                with self.assertRaises(BadMove) as caught:
                    function(split_msi(), 2, EXAMPLE + [wrong, ("x", 1)])
                self.assertEqual(caught.exception.at, 5)


class LiftedTests(unittest.TestCase):
    """[424]"""

    def check(self, table, n, moves):
        """Each move is made by what has the least number and the kind, as a play of the test's own tells it"""
        expected, play, stores = [], Play(table, n), 0
        for move in moves:
            states = [(one["state"], one["mark"]) for one in play.caches]
            kinds = [(one["kind"], one["mark"]) for one in play.net]
            if move[0] == "store":
                stores += 1
                expected.append(("store", states.index(move[1:]), stores))
            else:
                _, r, x, y = move
                _, own, gets = table[3][r][:3]
                expected.append(("row", r, -1 if own == -1 else states.index((own, x)),
                                 -1 if gets == -1 else kinds.index((gets, y))))
            self.assertTrue(play.step(expected[-1]))
        self.assertEqual(split_lifted(table, n, moves), expected)
        return play

    def test_example(self):
        moves = split_led(split_msi(), 2, EXAMPLE)
        self.assertEqual(split_lifted(split_msi(), 2, moves), EXAMPLE[:3] + [("store", 0, 1)] + EXAMPLE[4:])
        self.assertEqual(split_lifted(split_msi(), 0, []), [])

    def test_by_chance(self):
        source = chance(5)
        for table in [split_msi(), ASKING, BOTH, MARKS, CARELESS] * 8 + [random_split(source) for _ in range(120)]:
            n = source.randint(0, 4)
            moves, heaps = random_heap_run(source, table, split_start(table, n), 20)
            play = self.check(table, n, moves)
            self.assertEqual(play.heap(), heaps[-1])
            self.assertEqual(split_led(table, n, split_lifted(table, n, moves)), moves)

    def test_any_number_of_caches(self):
        moves = split_led(split_msi(), 2, EXAMPLE)
        for n in (2, 5, BIG):
            self.assertEqual(split_lifted(split_msi(), n, moves), split_lifted(split_msi(), 1, moves))
        moves = [("row", 3, 0, -1)] * 4 + [("row", 4, -1, 0), ("row", 5, 0, 1), ("store", 2, 1)]
        self.check(split_msi(), 4, moves)
        for n in (9, BIG):
            self.assertEqual(split_lifted(split_msi(), n, moves), split_lifted(split_msi(), 4, moves))

    def test_values_of_stores(self):
        moves = [("row", 0, 0, -1)] + [("store", 1, 1)] * 3
        self.assertEqual(split_lifted(MARKS, 1, moves), [("row", 0, 0, -1), ("store", 0, 1), ("store", 0, 2), ("store", 0, 3)])

    def test_errors(self):
        for table in (WRONG, msi()):
            with self.assertRaises(NotTable):
                split_lifted(table, -1, [("x", 1)])
        with self.assertRaises(BadNumber):
            split_lifted(split_msi(), -1, [("x", 1)])
        moves = split_led(split_msi(), 2, EXAMPLE)
        for n, at, wrong in ((2, 5, ("row", 5, 0, 1)), (2, 0, ("x", 1)), (0, 0, moves[0]), (2, 3, ("store", 2, 0)), (1, 1, moves[0]),
                             (2, 4, ("row", 8, -1, 1)), (2, 1, ("row", 4, -1, 1))):
            with self.assertRaises(BadMove) as caught:
                split_lifted(split_msi(), n, moves[:at] + [wrong, ("x", 1)])
            self.assertEqual(caught.exception.at, at)


class AlikeTests(unittest.TestCase):
    def test_without_partners(self):
        """[404]: marks, led and lifted runs are those of the table"""
        source = chance(6)
        for _ in range(80):
            table = random_table(source, 4, 3, 16)
            table = (table[0], table[1], tuple(row for row in table[2] if row[2] == -1))
            split, n, moves, state = split_of(table), source.randint(0, 3), [], line_begin(3)
            state = line_begin(n)
            for _ in range(20):
                told = moves_in(table, state) + [("store", k, source.randint(1, 3)) for k in range(n)]
                told = [move for move in told if line_behind(table, state, move) is not None]
                if told:
                    moves.append(source.choice(told))
                    state = line_behind(table, state, moves[-1])
            self.assertEqual(split_marks_on(split, n, moves), [told + ((),) for told in marks_on(table, n, moves)])
            self.assertEqual(split_led(split, n, moves), led(table, n, moves))
            self.assertEqual(split_lifted(split, n, led(table, n, moves)), lifted(table, n, led(table, n, moves)))

    def test_bad_heaps_and_old_copies(self):
        """[425]: all that heaps can come to with one and two caches, and plays with different values"""
        source = chance(7)
        for table in [SELF, CARELESS, ASKING, split_forgetful(split_msi(), 4)] + [random_split(source, 3, 2, 2, 7) for _ in range(30)]:
            for n in (1, 2):
                heaps, layer = {split_start(table, n): []}, [split_start(table, n)]
                while layer and len(heaps) < 150:
                    reached = []
                    for heap in layer:
                        for move, behind in steps_from(table, heap):
                            if behind not in heaps:
                                heaps[behind] = heaps[heap] + [move]
                                reached.append(behind)
                    layer = reached
                for heap, moves in list(heaps.items())[:60]:
                    lift = split_lifted(table, n, moves)
                    state = split_play(table, n, lift)
                    stores = [move[2] for move in lift if move[0] == "store"]
                    last = stores[-1] if stores else 0
                    old = any(table[0][s] > 0 and copy != last for s, copy in state[2])
                    self.assertEqual(old, is_bad_by_words(table, heap))

    def test_lists(self):
        moves = split_led(split_msi(), 2, EXAMPLE)
        given = (list(moves), list(EXAMPLE))
        for call in (lambda: split_marks_on(split_msi(), 2, EXAMPLE), lambda: split_led(split_msi(), 2, EXAMPLE),
                     lambda: split_lifted(split_msi(), 2, moves)):
            first = call()
            expected = list(first)
            first.clear()
            self.assertEqual(call(), expected)
        self.assertEqual((moves, EXAMPLE), given)


if __name__ == "__main__":
    unittest.main()
