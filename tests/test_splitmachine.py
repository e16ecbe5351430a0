"""Split machines, [450] and [451]"""

import unittest

import orders
from coheir.buffered import buffered_play
from coheir.buffers import seen_in
from coheir.errors import BadMove, NotProgram, NotTable
from coheir.machine import machine_moves, machine_states_on, shadow
from coheir.samples import msi
from coheir.splitmachine import (
    begin_split_machine, split_machine_moves, split_machine_play, split_machine_states_on, split_sight,
)
from coheir.splitsamples import split_forgetful, split_msi
from coheir.splittables import split_of
from splits import (
    ASKING, BOTH, CARELESS, NO_SPLIT_ROWS, SELF, Machine, machine_behind, nearby_split, random_machine_moves, random_split,
)
from support import chance, random_table

PLAY = (0, 0, ((0, -1), (0, -1)), ())
NO_TABLES = ((), ((1,), 1, 1, ()), ((0,), 7, 1, ()), msi())
NO_PROGRAMS = ((), ((),) * 13, ((("load", 4),),))
# The cache 0 comes to the right 2 of a line by three rows, and the cache 1 to the right 1.
TO_WRITE = [("row", 3, 0, -1), ("row", 4, -1, 0), ("row", 5, 0, 0)]
TO_READ = [("row", 0, 1, -1), ("row", 1, -1, 0), ("row", 2, 1, 0)]


def on(line, rows):
    return [("row", line) + row[1:] for row in rows]


class BeginTests(unittest.TestCase):
    def test_begin(self):
        self.assertEqual(begin_split_machine(split_msi(), orders.STORES), ((PLAY,) * 4, ((0, (), ()), (0, (), ()))))
        self.assertEqual(begin_split_machine(NO_SPLIT_ROWS, ((),)), (((0, 0, ((0, -1),), ()),) * 4, ((0, (), ()),)))

    def test_errors(self):
        """NotTable, then NotProgram"""
        calls = (begin_split_machine, lambda t, p: split_machine_moves(t, p, ()),
                 lambda t, p: split_machine_states_on(t, p, [("jump",)]), lambda t, p: split_machine_play(t, p, [("jump",)]),
                 lambda t, p: split_sight(t, p, [("jump",)]))
        for call in calls:
            for table in NO_TABLES:
                for program in NO_PROGRAMS + (orders.STORES,):
                    with self.assertRaises(NotTable):
                        call(table, program)
            for program in NO_PROGRAMS:
                with self.assertRaises(NotProgram):
                    call(split_msi(), program)


class MoveTests(unittest.TestCase):
    """[450]"""

    def refused(self, table, program, moves):
        """Return the index of the first move that cannot be made."""
        for function in (split_machine_states_on, split_machine_play, split_sight):
            with self.assertRaises(BadMove) as caught:
                function(table, program, moves)
        return caught.exception.at

    def test_nets_of_their_own(self):
        """Rows of all lines at any time, also for cores without instructions"""
        program = ((), (("fence",),))
        moves = on(3, TO_WRITE[:2]) + [("make", 1)] + on(0, TO_READ[:1]) + [("row", 1, 3, 1, -1)]
        lines, cores = split_machine_play(split_msi(), program, moves)
        self.assertEqual(lines, ((0, 0, ((0, -1), (3, -1)), ((3, -1),)), (0, 0, ((0, -1), (4, -1)), ((4, -1),)), PLAY,
                                 (3, 0, ((4, -1), (0, -1)), ((1, 0),))))
        self.assertEqual(cores, ((0, (), ()), (1, (), ())))

    def test_a_message_of_another_line(self):
        moves = on(3, TO_WRITE[:2])
        self.assertEqual(self.refused(split_msi(), ((), ()), moves + on(2, TO_WRITE[2:])), 2)
        self.assertEqual(self.refused(split_msi(), ((), ()), moves + [("row", 3, 5, 0, 1)]), 2)

    def test_loads_and_swaps(self):
        program = ((("store", 0, 5), ("load", 0), ("load", 1), ("swap", 1, 7)), (("load", 1),))
        self.assertEqual(split_sight(split_msi(), program, [("make", 0)] * 2), ((2, (5,)), (0, ())))
        self.assertEqual(self.refused(split_msi(), program, [("make", 0)] * 3), 2)
        self.assertEqual(self.refused(split_msi(), program, [("drain", 0)]), 0)
        self.assertEqual(self.refused(split_msi(), program, [("make", 0), ("drain", 0)]), 1)
        moves = [("make", 0)] + on(0, TO_WRITE) + [("drain", 0), ("make", 0)] + on(1, TO_WRITE) + [("make", 0)] * 2
        lines, cores = split_machine_play(split_msi(), program, moves)
        self.assertEqual(cores, ((4, (), (5, 0, 0)), (0, (), ())))
        self.assertEqual(lines[:2], ((1, 0, ((2, 5), (0, -1)), ()), (1, 0, ((2, 7), (0, -1)), ())))
        moves += on(1, [("row", 7, 0, -1), ("row", 8, -1, 0)] + TO_READ) + [("make", 1)]
        self.assertEqual(split_sight(split_msi(), program, moves), ((4, (5, 0, 0)), (1, (7,))))

    def test_rights(self):
        """A swap needs the right 2, and an empty buffer, as a fence does; a load the right 1"""
        program = ((("load", 0), ("swap", 0, 2)), (("swap", 0, 1), ("store", 1, 1), ("fence",)))
        moves = on(0, [("row", 0, 0, -1), ("row", 1, -1, 0)])
        self.assertEqual(self.refused(split_msi(), program, moves + [("make", 0)]), 2)
        moves += on(0, [("row", 2, 0, 0)])
        self.assertEqual(self.refused(split_msi(), program, moves + [("make", 0)] * 2), 4)
        self.assertEqual(self.refused(split_msi(), program, [("make", 1)]), 0)
        moves = on(0, [("row", 3, 1, -1), ("row", 4, -1, 0), ("row", 5, 1, 0)]) + [("make", 1)] * 2
        self.assertEqual(split_sight(split_msi(), program, moves), ((0, ()), (2, (0,))))
        self.assertEqual(self.refused(split_msi(), program, moves + [("make", 1)]), 5)

    def test_copies_of_nothing(self):
        program = ((("load", 2),),)
        self.assertEqual(split_sight(SELF, program, [("row", 2, 0, 0, -1), ("row", 2, 1, 0, 0), ("make", 0)]), ((1, (-1,)),))

    def test_moves_that_are_none(self):
        right = on(0, TO_WRITE) + [("make", 0), ("make", 1)]
        wrong = [("make", 2), ("make", -1), ("make", 0, 0), ("drain", 0, 0), ("drain", 1), ("drain", 2), ("stay", 0), ("make",),
                 ("row", 3, 0, -1), ("row", 4, 3, 0, -1), ("row", -1, 3, 0, -1), ("row", 0, 9, 0, -1), ("row", 0, -1, 0, -1),
                 ("row", 1, 3, 2, -1), ("row", 1, 3, -1, -1), ("row", 1, 3, 0, 0), ("row", 1, 4, -1, -1), ("row", 1, 4, -1, 0),
                 ("row", 1, 4, 0, 0), ("row", 1, 5, 0, 0), ("load", 0), ("store", 0, 1), ("row", 1, 3, 0, -1, 0), (),
                 ("rows", 1, 3, 0, -1), ("make", 1, 3, 0, -1), ("row", "1", 3, 0, -1), ("row", 1, 3, 0, "-1")]
        for move in wrong:
            for at in range(len(right) + 1):
                moves = right[:at] + [move] + right[at:]
                if move != ("drain", 1) or at < 5:
                    self.assertEqual(self.refused(split_msi(), orders.STORES, moves + [("jump", 0)]), at, move)

    def test_order_of_moves(self):
        program = ((("store", 0, 1),), (("load", 0),))
        state = split_machine_play(split_msi(), program, on(2, TO_READ) + on(1, TO_WRITE) + [("make", 0)])
        self.assertEqual(split_machine_moves(split_msi(), program, state), [
            ("row", 0, 0, 0, -1), ("row", 0, 0, 1, -1), ("row", 0, 3, 0, -1), ("row", 0, 3, 1, -1),
            ("row", 1, 0, 1, -1), ("row", 1, 3, 1, -1), ("row", 1, 7, 0, -1),
            ("row", 2, 0, 0, -1), ("row", 2, 3, 0, -1), ("row", 2, 6, 1, -1),
            ("row", 3, 0, 0, -1), ("row", 3, 0, 1, -1), ("row", 3, 3, 0, -1), ("row", 3, 3, 1, -1)])
        state = split_machine_play(split_msi(), program, [("make", 0)] + on(0, TO_WRITE[:1] + TO_READ[:1] + [("row", 1, -1, 0)]))
        self.assertEqual(split_machine_moves(split_msi(), program, state)[0], ("row", 0, 2, 1, 0))
        self.assertEqual(split_machine_moves(SELF, ((("fence",),),), begin_split_machine(SELF, ((("fence",),),)))[:2],
                         [("make", 0), ("row", 0, 0, 0, -1)])

    def test_chance(self):
        """All moves of a machine, and all states of a run"""
        source = chance(1)
        for number in range(100):
            table = (split_msi(), ASKING, BOTH, CARELESS, random_split(source, 4, 2, 3, 10))[number % 5]
            program = orders.random_program(source, most_instructions=4)
            moves = random_machine_moves(source, table, program, source.randint(0, 40))
            kept = list(moves)
            states = split_machine_states_on(table, program, moves)
            self.assertEqual(moves, kept)
            machine, told = Machine(table, program), []
            for move in moves:
                told.append(machine.state())
                self.assertTrue(machine.step(move))
            self.assertEqual(states, told + [machine.state()])
            self.assertEqual(split_machine_play(table, program, moves), machine.state())
            self.assertEqual(split_sight(table, program, moves), machine.seen())
            cores = [(word, c) for word in ("make", "drain") for c in range(len(program))]
            wanted = [move for move in cores if not isinstance(machine_behind(table, program, moves + [move]), int)]
            self.assertEqual(split_machine_moves(table, program, states[-1]), wanted + machine.rows())

    def test_many_cores(self):
        program = ((("swap", 3, 7),),) + ((("load", 3),),) * 11
        moves = on(3, TO_WRITE) + [("make", 0), ("row", 3, 7, 0, -1), ("row", 3, 8, -1, 0), ("row", 3, 0, 11, -1)]
        moves += [("row", 3, 1, -1, 0), ("row", 3, 2, 11, 0), ("make", 11)]
        seen = split_sight(split_msi(), program, moves)
        self.assertEqual([seen[0], seen[5], seen[11]], [(1, (0,)), (0, ()), (1, (7,))])

    def test_lists_are_new(self):
        states = split_machine_states_on(split_msi(), orders.STORES, [("make", 0)])
        kept = list(states)
        states.clear()
        self.assertEqual(split_machine_states_on(split_msi(), orders.STORES, [("make", 0)]), kept)
        split_machine_moves(split_msi(), orders.STORES, kept[0]).clear()
        self.assertEqual(len(split_machine_moves(split_msi(), orders.STORES, kept[0])), 2 + 4 * 4)


class ShadowTests(unittest.TestCase):
    """[451]"""

    def test_shadows_of_coherent_tables(self):
        """Buffered runs, in which all cores make, wait and are told the same, whatever messages are under way"""
        source = chance(2)
        loads = 0
        for number in range(80):
            table = (split_msi(), ASKING)[number % 2]
            program = orders.random_program(source, most_instructions=4)
            moves = random_machine_moves(source, table, program, 120)
            cores = split_machine_play(table, program, moves)[1]
            told = buffered_play(program, shadow(moves))[1]
            self.assertEqual(cores, told)
            self.assertEqual(split_sight(table, program, moves), seen_in(told))
            loads += sum(len(core[2]) for core in cores)
        self.assertGreater(loads, 60)

    def test_a_table_that_is_not_coherent(self):
        table = split_forgetful(split_msi(), 4)
        program = ((("swap", 0, 1),), (("load", 0),))
        moves = on(0, TO_READ + TO_WRITE) + [("make", 0), ("make", 1)]
        self.assertEqual(split_sight(table, program, moves), ((1, (0,)), (1, (0,))))
        self.assertEqual(seen_in(buffered_play(program, shadow(moves))[1]), ((1, (0,)), (1, (1,))))

    def test_without_partners(self):
        """The machine of the split table of a table is that of the table, with an empty net"""
        source = chance(3)
        for _ in range(40):
            table = random_table(source, 4, 2, 12)
            table = (table[0], table[1], tuple(row for row in table[2] if row[2] == -1))
            split = split_of(table)
            program = orders.random_program(source, most_instructions=4)
            moves = random_machine_moves(source, split, program, 30)
            states = split_machine_states_on(split, program, moves)
            expected = machine_states_on(table, program, moves)
            self.assertEqual(states, [(tuple(line + ((),) for line in lines), cores) for lines, cores in expected])
            self.assertEqual(split_machine_moves(split, program, states[-1]), machine_moves(table, program, expected[-1]))

    def test_nearby_ones(self):
        """Whatever the table is: a move that is told can be made, and no other one"""
        source = chance(4)
        for _ in range(20):
            table = nearby_split(source, ASKING, 2)
            program = orders.random_program(source)
            moves = random_machine_moves(source, table, program, 20)
            state = split_machine_play(table, program, moves)
            for move in split_machine_moves(table, program, state):
                self.assertEqual(split_machine_play(table, program, moves + [move]), machine_behind(table, program, moves + [move]).state())


if __name__ == "__main__":
    unittest.main()
