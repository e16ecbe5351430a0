"""Programs made out of the faults of split tables, [452] and [453]"""

import unittest

import machines
import orders
import proofs_told
from coheir.buffered import buffered_run
from coheir.errors import NoAnswer, NotTable, TooLarge
from coheir.making import made_program, sight_proved
from coheir.programs import is_program
from coheir.samples import msi
from coheir.splitcoherence import is_split_coherent, split_bad_run, split_fewest, split_passes
from coheir.splitmaking import split_made_program
from coheir.splitplay import split_play
from coheir.splitsamples import split_forgetful, split_msi
from coheir.splittables import split_of
from splits import (
    ASKING, BOTH, CARELESS, NO_SPLIT_ROWS, ONE_MORE, SELF, SPLIT_ALONE, TOO_WIDE_SPLIT, Machine, machine_behind,
    nearby_split, random_machine_moves, random_split, split_counting,
)
from support import chance, random_table
from test_splitcoherence import PASSING_AND_LARGE, THREE

FORGETFUL = split_forgetful(split_msi(), 4)
# Several messages are under way at once: the home sends two, and who has written sends one home and one on.
NOISY = ((0, 2, 1), 1, 3, (
    (0, 0, -1, 0, 1, (0, 1, 2), ((0, "home"), (0, "home")), "home", "keep"),
    (-1, 1, -1, -1, 0, (0, 1, 2), ((1, "own"), (2, "own")), "keep", "keep"),
    (-1, 0, 2, -1, 2, (0, 1, 2), (), "got", "keep"),
    (0, -1, 1, 0, -1, (0, 1, 2), (), "keep", "got"),
))


def split_counting_to_flag(count):
    """Return a table in which the last cache of `split_counting` may write at last, and one more may read."""
    rights, homes, kinds, rows = split_counting(count)
    last = rows[-1]
    reader = (last[3], 0, -1, last[3], 3, last[5], (), "home", "keep")
    return ((0, 0, 2, 1, 0, 0, 0, 0), homes, kinds, rows[:-1] + (last[:7] + ("home", "keep"), reader))


class MadeTests(unittest.TestCase):
    def check(self, table):
        """Look at each thing that [286] and [452] tell, and return the word of the proof"""
        program, moves, proof = split_made_program(table)
        word, chain, reader = proof
        count = split_fewest(table)
        self.assertTrue(is_program(program))
        self.assertEqual(len(program), count)
        machine = machine_behind(table, program, moves)
        self.assertIsInstance(machine, Machine)
        seen = machine.seen()
        self.assertTrue(proofs_told.is_right(program, seen, proof))
        self.assertIs(sight_proved(program, seen, proof), True)
        self.assertEqual([made for made, _ in seen], [len(core) for core in program])
        bad, swaps = machines.bad_part(program, moves)
        self.assertEqual(len(bad), len(split_bad_run(table)))
        end = split_play(table, count, bad)
        old = [(k, copy) for k, (at, copy) in enumerate(end[2]) if table[0][at] > 0 and copy != len(swaps)]
        self.assertEqual(old[0][0], reader)
        cores = [[] for _ in program]
        for value, c in enumerate(swaps):
            cores[c].append(("swap", 0, value + 1))
        if old[0][1] == -1:
            self.assertEqual((word, chain), ("nothing", ()))
        else:
            self.assertEqual([program[c][i][2] for c, i in chain], list(range(1, len(swaps) + 1)))
            self.assertEqual(word, "behind" if swaps[-1] == reader else "flag")
        if word == "flag":
            cores[swaps[-1]].append(("store", 1, 1))
            cores[reader].append(("load", 1))
            self.assertTrue(split_passes(table))
            rows = [move for move in moves if move[0] == "row" and move[1] == 1]
            self.assertLessEqual({move[3] for move in rows}, {-1, reader, swaps[-1]})
        cores[reader].append(("load", 0))
        self.assertEqual(program, tuple(map(tuple, cores)))
        lines = {move[1] for move in moves if move[0] == "row"}
        self.assertLessEqual(lines, {0, 1} if word == "flag" else {0})
        if sum(map(len, program)) < 6 and len(program) < 5:
            with self.assertRaises(NoAnswer):
                buffered_run(program, seen)
        return word

    def test_coherent_tables(self):
        for table in (split_msi(), ASKING, NO_SPLIT_ROWS, SPLIT_ALONE):
            self.assertTrue(is_split_coherent(table))
            self.assertIsNone(split_made_program(table))

    def test_each_word(self):
        self.assertEqual(self.check(SELF), "nothing")
        self.assertEqual(self.check(THREE), "nothing")
        self.assertEqual(self.check(split_of(machines.BEHIND)), "behind")
        self.assertEqual(self.check(FORGETFUL), "flag")
        self.assertIn(self.check(NOISY), ("behind", "flag"))
        self.assertEqual(split_made_program(SELF), (
            ((("load", 0),),), [("row", 0, 0, 0, -1), ("row", 0, 1, 0, 0), ("make", 0)], ("nothing", (), 0)))
        for table in (SELF, split_of(machines.BEHIND)):
            self.assertFalse(split_passes(table))

    def test_chance(self):
        source = chance(1)
        words = []
        for number in range(320):
            table = nearby_split(source, FORGETFUL) if number % 16 == 0 else (
                nearby_split(source, ASKING, 2), nearby_split(source, NOISY, 1), random_split(source, 3, 2, 2, 7),
                random_split(source, 2, 1, 2, 5))[number % 4]
            if is_split_coherent(table):
                self.assertIsNone(split_made_program(table))
                continue
            try:
                words.append(self.check(table))
            except NoAnswer:
                words.append("none")
                self.assertFalse(split_passes(table))
        self.assertEqual(set(words), {"nothing", "behind", "flag", "none"})
        self.assertGreater(words.count("flag"), 10)

    def test_no_answer(self):
        """A flag would be needed, and the table does not pass"""
        table = split_of(machines.STUCK)
        self.assertFalse(is_split_coherent(table) or split_passes(table))
        self.assertFalse(is_split_coherent(CARELESS) or split_passes(CARELESS))
        for stuck in (table, CARELESS):
            with self.assertRaises(NoAnswer):
                split_made_program(stuck)

    def test_too_large(self):
        """Twelve cores, and thirteen; NoAnswer ahead of it; the bar ahead of both"""
        self.assertEqual(self.check(split_counting(12)), "nothing")
        with self.assertRaises(TooLarge):
            split_made_program(split_counting(13))
        many = split_counting_to_flag(13)
        self.assertEqual(split_fewest(many), 14)
        with self.assertRaises(NoAnswer):
            split_made_program(many)
        with self.assertRaises(NoAnswer):
            split_made_program(split_counting_to_flag(4))
        with self.assertRaises(TooLarge):
            split_made_program(TOO_WIDE_SPLIT)

    def test_too_many_states_of_a_passing_run(self):
        """Only if a flag is needed"""
        with self.assertRaises(TooLarge):
            split_made_program(PASSING_AND_LARGE)
        table = ((0, 0, 0, 0, 0, 1, 0, 0),) + ONE_MORE[1:]
        with self.assertRaises(TooLarge):
            split_passes(table)
        self.assertEqual(split_made_program(table)[2], ("nothing", (), 0))

    def test_errors(self):
        for table in ((), ((1,), 1, 1, ()), ((0,), 7, 1, ()), msi()):
            with self.assertRaises(NotTable):
                split_made_program(table)

    def test_new_list(self):
        first = split_made_program(SELF)
        first[1].clear()
        self.assertEqual(len(split_made_program(SELF)[1]), 3)

    def test_without_partners(self):
        """As those of the table, whose proofs have the same words"""
        source = chance(2)
        words = {}
        for _ in range(150):
            table = random_table(source, 3, 2, 6)
            table = (table[0], table[1], tuple(row for row in table[2] if row[2] == -1))
            try:
                expected = made_program(table)
            except NoAnswer:
                with self.assertRaises(NoAnswer):
                    split_made_program(split_of(table))
                continue
            found = split_made_program(split_of(table))
            self.assertEqual(found is None, expected is None)
            if found is not None:
                self.check(split_of(table))
                words[found[2][0]] = words.get(found[2][0], 0) + 1
                self.assertEqual((found[2][0], len(found[1])), (expected[2][0], len(expected[1])))
        self.assertGreater(len(words), 1)

    def test_sights_of_coherent_tables(self):
        """[453]: all of them are buffered observations"""
        source = chance(3)
        for number in range(40):
            table = (split_msi(), ASKING)[number % 2]
            program = orders.random_program(source, most_cores=2, most_instructions=3)
            machine = machine_behind(table, program, random_machine_moves(source, table, program, 60))
            self.assertIsInstance(buffered_run(program, machine.seen()), list)


if __name__ == "__main__":
    unittest.main()
