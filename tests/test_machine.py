"""The whole machine, [250] to [253] and [256]"""

import unittest

import machines
import orders
from coheir.buffered import buffered_play
from coheir.buffers import seen_in
from coheir.errors import BadMove, NotProgram, NotTable
from coheir.machine import (
    begin_machine, machine_moves, machine_play, machine_states_on, shadow, sight,
)
from coheir.samples import forgetful, mesi, mosi, msi
from support import NO_ROWS, SMALL, chance, random_table

PLAY = (0, 0, ((0, -1), (0, -1)))
NO_TABLES = ((), ((1,), 1, ()), ((0,), 7, ()))
NO_PROGRAMS = ((), ((),) * 13, ((("load", 4),),))


class BeginTests(unittest.TestCase):
    def test_begin(self):
        """[250]"""
        self.assertEqual(begin_machine(msi(), orders.STORES), ((PLAY,) * 4, ((0, (), ()), (0, (), ()))))
        self.assertEqual(begin_machine(NO_ROWS, ((),)), (((0, 0, ((0, -1),)),) * 4, ((0, (), ()),)))
        self.assertEqual(len(begin_machine(msi(), ((),) * 12)[1]), 12)

    def test_errors(self):
        """NotTable, then NotProgram"""
        calls = (begin_machine, lambda t, p: machine_moves(t, p, ()), lambda t, p: machine_states_on(t, p, [("jump",)]),
                 lambda t, p: machine_play(t, p, [("jump",)]), lambda t, p: sight(t, p, [("jump",)]))
        for call in calls:
            for table in NO_TABLES:
                for program in NO_PROGRAMS + (orders.STORES,):
                    with self.assertRaises(NotTable):
                        call(table, program)
            for program in NO_PROGRAMS:
                with self.assertRaises(NotProgram):
                    call(msi(), program)


class MoveTests(unittest.TestCase):
    """[251]"""

    def refused(self, table, program, moves):
        """Return the index of the first move that cannot be made."""
        for function in (machine_states_on, machine_play, sight):
            with self.assertRaises(BadMove) as caught:
                function(table, program, moves)
        return caught.exception.at

    def test_rows_at_any_time(self):
        """Rows of all lines, also for cores without instructions"""
        program = ((), (("fence",),))
        moves = [("row", 3, 2, 0, -1), ("make", 1), ("row", 0, 0, 1, -1), ("row", 3, 3, 1, 0)]
        lines, cores = machine_play(msi(), program, moves)
        self.assertEqual(lines, ((0, 0, ((0, -1), (1, 0))), PLAY, PLAY, (1, 0, ((0, 0), (2, 0)))))
        self.assertEqual(cores, ((0, (), ()), (1, (), ())))

    def test_load_of_a_waiting_store(self):
        """No right is needed, and the newest one is told"""
        program = ((("store", 0, 5), ("store", 1, 6), ("store", 0, 7), ("load", 0), ("load", 1), ("load", 2)),)
        self.assertEqual(sight(NO_ROWS, program, [("make", 0)] * 5), ((5, (7, 6)),))
        self.assertEqual(self.refused(NO_ROWS, program, [("make", 0)] * 6), 5)
        self.assertEqual(sight(msi(), program, [("make", 0)] * 5 + [("row", 2, 0, 0, -1), ("make", 0)]), ((6, (7, 6, 0)),))

    def test_waiting(self):
        """Swaps and fences wait for an empty buffer"""
        for last in (("swap", 0, 2), ("fence",)):
            program = ((("store", 0, 1), last), ())
            moves = [("row", 0, 2, 0, -1), ("make", 0), ("make", 0)]
            self.assertEqual(self.refused(msi(), program, moves), 2)
            moves = moves[:2] + [("drain", 0), ("make", 0)]
            self.assertEqual(sight(msi(), program, moves)[0], (2, (1,) if last[0] == "swap" else ()))

    def test_rights(self):
        """A swap and a drain without the right 2, a load without the right 1"""
        swap = ((("swap", 0, 9), ("load", 0)), ())
        self.assertEqual(self.refused(msi(), swap, [("make", 0)]), 0)
        self.assertEqual(self.refused(msi(), swap, [("row", 0, 0, 0, -1), ("make", 0)]), 1)
        self.assertEqual(self.refused(msi(), swap, [("row", 1, 2, 0, -1), ("make", 0)]), 1)
        state = machine_play(msi(), swap, [("row", 0, 2, 0, -1), ("make", 0), ("make", 0)])
        self.assertEqual(state, (((1, 0, ((2, 9), (0, -1))), PLAY, PLAY, PLAY), ((2, (), (0, 9)), (0, (), ()))))
        store = ((("store", 0, 9),), (("load", 0),))
        self.assertEqual(self.refused(msi(), store, [("make", 0), ("drain", 0)]), 1)
        self.assertEqual(self.refused(msi(), store, [("row", 0, 0, 0, -1), ("make", 0), ("drain", 0)]), 2)
        self.assertEqual(self.refused(msi(), store, [("row", 0, 2, 0, -1), ("drain", 0)]), 1)
        self.assertEqual(self.refused(msi(), store, [("make", 1)]), 0)
        state = machine_play(msi(), store, [("row", 0, 2, 0, -1), ("make", 0), ("drain", 0), ("row", 0, 1, 1, 0), ("make", 1)])
        self.assertEqual(state[1], ((1, (), ()), (1, (), (9,))))

    def test_oldest_store_first(self):
        """A drain waits for the right of the oldest store's line"""
        program = ((("store", 0, 1), ("store", 1, 2)),)
        moves = [("make", 0), ("make", 0), ("row", 1, 2, 0, -1), ("drain", 0)]
        self.assertEqual(self.refused(msi(), program, moves), 3)
        moves[3:] = [("row", 0, 2, 0, -1), ("drain", 0), ("drain", 0)]
        lines, cores = machine_play(msi(), program, moves)
        self.assertEqual([line[2] for line in lines[:2]], [((2, 1),), ((2, 2),)])
        self.assertEqual(cores, ((2, (), ()),))

    def test_copies_of_nothing(self):
        """A machine tells what the copy is, also -1"""
        program = ((("load", 2), ("swap", 2, 3), ("load", 2)),)
        table = ((0, 2), 1, ((0, 0, -1, 0, 1, -1, (0, 1), "keep", "keep"),))
        self.assertEqual(sight(table, program, [("row", 2, 0, 0, -1)] + [("make", 0)] * 3), ((3, (-1, -1, 3)),))

    def test_moves_that_are_none(self):
        right = [("row", 0, 2, 0, -1), ("make", 0), ("make", 1)]
        wrong = [("make", 2), ("make", -1), ("make", 0, 0), ("drain", 0, 0), ("drain", 1), ("drain", 2), ("stay", 0), ("make",),
                 ("row", 2, 1, -1), ("row", 4, 2, 0, -1), ("row", -1, 2, 0, -1), ("row", 0, 7, 0, -1), ("row", 0, -1, 0, -1),
                 ("row", 1, 2, 2, -1), ("row", 1, 2, -1, -1), ("row", 1, 2, 0, 1), ("row", 0, 3, 1, 1), ("row", 0, 3, 1, -1),
                 ("row", 0, 3, 0, 1), ("row", 1, 3, 0, 1), ("load", 0), ("store", 0, 1), ("row", 1, 2, 0, -1, 0),
                 ("rows", 1, 2, 0, -1), ("make", 1, 2, 0, -1)]
        for move in wrong:
            for at in range(len(right) + 1):
                moves = right[:at] + [move] + right[at:]
                if move != ("make", 2) or at < 3:
                    self.assertEqual(self.refused(msi(), orders.STORES, moves + [("jump", 0)]), at, move)

    def test_chance(self):
        """All moves of a machine, and all states of a run"""
        source = chance(1)
        for _ in range(80):
            table = source.choice((msi(), mesi(), mosi(), SMALL, random_table(source, 4, 3, 8)))
            program = orders.random_program(source, most_instructions=4)
            moves = machines.random_moves(source, table, program, source.randint(0, 40))
            kept = list(moves)
            states = machine_states_on(table, program, moves)
            self.assertEqual(moves, kept)
            self.assertEqual(states, [machines.state_behind(table, program, moves[:at]) for at in range(len(moves) + 1)])
            self.assertEqual(machine_play(table, program, moves), states[-1])
            self.assertEqual(sight(table, program, moves), machines.seen(states[-1]))
            wanted = [move for move in machines.all_moves(table, program)
                      if not isinstance(machines.state_behind(table, program, moves + [move]), int)]
            self.assertEqual(machine_moves(table, program, states[-1]), wanted)

    def test_many_cores(self):
        """Twelve cores"""
        program = ((("swap", 3, 7),),) + ((("load", 3),),) * 11
        moves = [("row", 3, 2, 0, -1), ("make", 0), ("row", 3, 1, 11, 0), ("make", 11), ("row", 3, 0, 5, -1), ("make", 5)]
        seen = sight(msi(), program, moves)
        self.assertEqual([seen[0], seen[5], seen[11]], [(1, (0,)), (1, (7,)), (1, (7,))])
        self.assertEqual(len(machine_moves(msi(), program, begin_machine(msi(), program))), 4 * 24)

    def test_lists_are_new(self):
        states = machine_states_on(msi(), orders.STORES, [("make", 0)])
        kept = list(states)
        states.clear()
        self.assertEqual(machine_states_on(msi(), orders.STORES, [("make", 0)]), kept)
        machine_moves(msi(), orders.STORES, kept[0]).clear()
        self.assertEqual(len(machine_moves(msi(), orders.STORES, kept[0])), 2 + 4 * 4)


class ShadowTests(unittest.TestCase):
    def test_shadow(self):
        """[253]: the moves that are no rows; it looks at nothing else"""
        moves = [("row", 0, 2, 0, -1), ("make", 0), ("jump", 7), ("row",), ("drain", 99)]
        kept = list(moves)
        found = shadow(moves)
        self.assertEqual(found, [("make", 0), ("jump", 7), ("drain", 99)])
        found.clear()
        self.assertEqual(moves, kept)
        self.assertEqual(shadow([]), [])

    def test_shadows_of_coherent_tables(self):
        """[253]: buffered runs, in which all cores make, wait and are told the same"""
        source = chance(2)
        for _ in range(60):
            table = source.choice((msi(), mesi(), mosi()))
            program = orders.random_program(source, most_instructions=4)
            moves = machines.random_moves(source, table, program, 60)
            lines, cores = machine_play(table, program, moves)
            memory, told = buffered_play(program, shadow(moves))
            self.assertEqual(cores, told)
            self.assertEqual(sight(table, program, moves), seen_in(told))
            for line, (home, value, caches) in enumerate(lines):
                copies = [copy for state, copy in caches if table[0][state] > 0]
                self.assertEqual(copies, [memory[line]] * len(copies))

    def test_a_table_that_is_not_coherent(self):
        """There the shadow may tell something else"""
        table = forgetful(msi(), 4)
        program = ((("swap", 0, 1),), (("load", 0),))
        moves = [("row", 0, 0, 0, -1), ("row", 0, 0, 1, -1), ("row", 0, 4, 0, -1), ("make", 0), ("make", 1)]
        self.assertEqual(sight(table, program, moves), ((1, (0,)), (1, (0,))))
        self.assertEqual(seen_in(buffered_play(program, shadow(moves))[1]), ((1, (0,)), (1, (1,))))

    def test_rows_tell_a_core_nothing(self):
        """[256]: other rows, the same shadow and the same told values"""
        program = ((("store", 0, 5),), (("load", 0),))
        one = [("make", 0), ("row", 0, 2, 0, -1), ("drain", 0), ("row", 0, 1, 1, 0), ("make", 1)]
        other = [("row", 1, 2, 0, -1), ("row", 0, 0, 0, -1), ("make", 0), ("row", 0, 4, 0, -1), ("drain", 0),
                 ("row", 0, 6, 0, -1), ("row", 0, 0, 1, -1), ("row", 2, 0, 1, -1), ("make", 1)]
        self.assertEqual(shadow(one), shadow(other))
        self.assertEqual(machine_play(msi(), program, one)[1], machine_play(msi(), program, other)[1])


if __name__ == "__main__":
    unittest.main()
