"""Programs made out of faults, [280] to [287]"""

import unittest

import machines
import orders
import proofs_told as told
from coheir.buffered import buffered_run
from coheir.coherence import bad_run, fewest_caches, is_coherent, passes
from coheir.errors import CoheirError, NoAnswer, NotObservation, NotProgram, NotTable, TooLarge
from coheir.lineplay import play
from coheir.making import made_program, sight_proved
from coheir.programs import is_program
from coheir.samples import forgetful, mesi, mosi, msi
from support import ALONE, NO_ROWS, TOO_WIDE, chance, nearby_table, random_table


class ProofTests(unittest.TestCase):
    """[280] to [285]"""

    def test_right_ones(self):
        for program, seen, proof in told.CASES:
            self.assertIs(sight_proved(program, seen, proof), True)
            self.assertTrue(told.is_right(program, seen, proof))
        for program, seen, proof, wanted in told.NEARLY:
            self.assertIs(sight_proved(program, seen, proof), wanted)
            self.assertIs(told.is_right(program, seen, proof), wanted)

    def test_one_thing_changed(self):
        """Each condition broken alone"""
        right = 0
        for program, seen, proof in told.broken_ones():
            wanted = told.is_right(program, seen, proof)
            right += wanted
            self.assertIs(sight_proved(program, seen, proof), wanted, (program, seen, proof))
        self.assertGreater(right, 20)

    def test_several_things_changed(self):
        right = 0
        for program, seen, proof in told.random_ones(1, 3000):
            wanted = told.is_right(program, seen, proof)
            right += wanted
            self.assertIs(sight_proved(program, seen, proof), wanted, (program, seen, proof))
        self.assertGreater(right, 50)

    def test_written_out(self):
        """What the points tell, thing by thing"""
        program, seen, proof = told.BEHIND_PROGRAM, told.BEHIND_SEEN, told.BEHIND
        for wrong in (
                (program, ((1, (0,)), (4, (-4, 5, 7))), proof),  # the value of the last swap itself
                (program, ((1, (0,)), (3, (-4, 5))), proof),  # the swap is the last one that is made
                (program, ((1, (0,)), (5, (-4, 5, 5, 1))), proof),  # the last load is of another line
                (program, ((1, (3,)), (4, (-4, 5, 5))), proof),  # the first swap was not told 0
                (program, ((1, (0,)), (4, (-4, 0, 5))), proof),  # the second one was not told the value of the first
                (program, ((0, ()), (4, (-4, 0, 5))), proof),  # a swap of the chain is not made
                (program, ((0, ()), (4, (-4, 0, 5))), ("behind", ((1, 2),), 1)),  # a swap is not in the chain
                (program + ((("store", 0, 9),),), seen + ((0, ()),), proof),  # a store on the line, though not made
                (program, seen, ("behind", proof[1], 0)), (program, seen, ("flag", proof[1], 1)),
                (program, seen, ("behind", (), 1)), (program, seen, ("nothing", proof[1], 1))):
            self.assertIs(sight_proved(*wrong), False)
        program, seen, proof = told.FLAG_PROGRAM, told.FLAG_SEEN, told.FLAG
        for wrong in (
                (program, changed(seen, 2, (3, (0, 3, 7))), proof), (program, changed(seen, 2, (3, (0, 0, 5))), proof),
                (program, changed(seen, 2, (4, (0, 3, 5, 5))), proof), (program, changed(seen, 1, (2, (5,))), proof),
                (program + ((("swap", 1, 3),),), seen + ((0, ()),), proof), (program, seen, changed(proof, 2, 1)),
                (program + ((("store", 1, 9),),), seen + ((0, ()),), proof), (program, seen, changed(proof, 2, 0))):
            self.assertIs(sight_proved(*wrong), False)
        same = ((("swap", 0, 5),), (("swap", 0, 5), ("load", 0)))
        self.assertIs(sight_proved(same, ((1, (0,)), (2, (5, 0))), ("behind", ((0, 0), (1, 0)), 1)), False)
        program, seen, proof = told.NOTHING_PROGRAM, told.NOTHING_SEEN, told.NOTHING
        for value, wanted in ((0, False), (4, False), (6, False), (8, True), (-1, True), (10 ** 20, True)):
            self.assertIs(sight_proved(program, ((2, (0, value)), (0, ())), proof), wanted)
        self.assertIs(sight_proved(program, ((1, (4,)), (0, ())), proof), True)
        self.assertIs(sight_proved(program, ((0, ()), (0, ())), proof), False)
        self.assertIs(sight_proved(program, ((2, (0, 8)), (2, (9,))), ("nothing", (), 1)), False)

    def test_what_is_no_proof(self):
        for program, seen, proof in told.CASES:
            for wrong in ((), proof[:2], proof + (0,), 0, (proof[0], list(proof[1]), proof[2]), (proof[0], 0, proof[2]),
                          (proof[0], proof[1], str(proof[2])), (proof[0], proof[1], None), proof[1],
                          (proof[0], proof[1] + (0,), proof[2]), (proof[0], proof[1] + ((0,),), proof[2]),
                          (proof[0], proof[1] + ((0, 0, 0),), proof[2]), (proof[0], (("0", 0),), proof[2]),
                          ("flag", ((0, 0), (1, True)), 2), ("flag", ((False, 0), (1, 1)), 2),
                          ("flag", ((0, 0, 0), (1, 1)), 2)):
                self.assertIs(sight_proved(program, seen, wrong), False)
        self.assertIs(sight_proved(told.BEHIND_PROGRAM, told.BEHIND_SEEN, changed(told.BEHIND, 2, True)), False)

    def test_never_for_buffered_observations(self):
        """[285], [304]: no proof is right for what is buffered"""
        source = chance(2)
        for _ in range(60):
            program = orders.random_program(source, most_cores=2, most_instructions=3)
            swaps = [(c, i) for c, core in enumerate(program) for i, made in enumerate(core) if made[0] == "swap"]
            for seen in {orders.seen(state) for state in orders.all_states(program, "buffered")}:
                for word in ("nothing", "behind", "flag"):
                    for chain in ((), tuple(swaps), tuple(swaps[::-1])):
                        for reader in range(len(program)):
                            self.assertIs(sight_proved(program, seen, (word, chain, reader)), False)

    def test_errors(self):
        """NotProgram, NotObservation"""
        with self.assertRaises(NotProgram):
            sight_proved((), (), ())
        for wrong in ((), told.BEHIND_SEEN[:1], ((1, (0,)), (4, (5, 5)))):
            with self.assertRaises(NotObservation):
                sight_proved(told.BEHIND_PROGRAM, wrong, told.BEHIND)


def changed(parts, at, value):
    return parts[:at] + (value,) + parts[at + 1:]


class MadeTests(unittest.TestCase):
    """[286], [287]"""

    def check(self, table):
        """Look at each thing that [286] tells, and return the word of the proof."""
        program, moves, proof = made_program(table)
        word, chain, reader = proof
        self.assertTrue(is_program(program))
        self.assertEqual(len(program), fewest_caches(table))
        state = machines.state_behind(table, program, moves)
        self.assertNotIsInstance(state, int)
        seen = machines.seen(state)
        self.assertTrue(told.is_right(program, seen, proof))
        self.assertEqual([made for made, _ in seen], [len(core) for core in program])
        bad, last = machines.bad_part(program, moves)
        self.assertEqual(len(bad), len(bad_run(table)))
        end = play(table, len(program), bad)
        old = [(k, copy) for k, (at, copy) in enumerate(end[2]) if table[0][at] > 0 and copy != len(last)]
        self.assertEqual(old[0][0], reader)
        cores = [[] for _ in program]
        for value, c in enumerate(last):
            cores[c].append(("swap", 0, value + 1))
        if old[0][1] == -1:
            self.assertEqual((word, chain), ("nothing", ()))
        else:
            self.assertEqual([program[c][i][2] for c, i in chain], list(range(1, len(last) + 1)))
            self.assertEqual(word, "behind" if last[-1] == reader else "flag")
        if word == "flag":
            cores[last[-1]].append(("store", 1, 1))
            cores[reader].append(("load", 1))
            self.assertTrue(passes(table))
            rows = [move for move in moves if move[0] == "row" and move[1] == 1]
            self.assertLessEqual({cache for move in rows for cache in move[3:]}, {-1, reader, last[-1]})
        cores[reader].append(("load", 0))
        self.assertEqual(program, tuple(map(tuple, cores)))
        self.assertFalse([move for move in moves if move[0] == "row" and move[1] not in ((0, 1) if word == "flag" else (0,))])
        if sum(map(len, program)) < 6 and len(program) < 5:
            with self.assertRaises(NoAnswer):
                buffered_run(program, seen)
        return word

    def test_coherent_tables(self):
        for table in (msi(), mesi(), mosi(), SMALL_COHERENT, NO_ROWS, ALONE):
            self.assertTrue(is_coherent(table))
            self.assertIsNone(made_program(table))

    def test_each_word(self):
        self.assertEqual(self.check(machines.NOTHING), "nothing")
        self.assertEqual(self.check(machines.BEHIND), "behind")
        self.assertEqual(self.check(forgetful(msi(), 4)), "flag")
        self.assertEqual(made_program(machines.NOTHING), (((("load", 0),),), [("row", 0, 0, 0, -1), ("make", 0)], ("nothing", (), 0)))
        for table in (machines.NOTHING, machines.BEHIND):
            self.assertFalse(passes(table))

    def test_samples(self):
        for table in (msi(), mesi(), mosi()):
            for row in range(len(table[2])):
                other = forgetful(table, row)
                if not is_coherent(other):
                    self.check(other)

    def test_chance(self):
        source = chance(3)
        words = []
        for _ in range(400):
            table = nearby_table(source, source.choice((msi(), mesi(), mosi()))) if source.random() < 0.5 \
                else random_table(source, 3, 2, 6)
            if is_coherent(table):
                self.assertIsNone(made_program(table))
                continue
            try:
                words.append(self.check(table))
            except NoAnswer:
                words.append("none")
                self.assertFalse(passes(table))
        self.assertEqual(set(words), {"nothing", "behind", "flag", "none"})
        self.assertGreater(words.count("flag"), 5)

    def test_no_answer(self):
        """A flag would be needed, and the table does not pass"""
        self.assertFalse(is_coherent(machines.STUCK) or passes(machines.STUCK))
        with self.assertRaises(NoAnswer):
            made_program(machines.STUCK)

    def test_too_large(self):
        """Twelve cores, and thirteen; NoAnswer ahead of it; the bar ahead of both"""
        self.assertEqual(self.check(machines.counting(12)), "nothing")
        with self.assertRaises(TooLarge):
            made_program(machines.counting(13))
        many = machines.counting_to_flag(13)
        self.assertEqual(fewest_caches(many), 14)
        with self.assertRaises(NoAnswer):
            made_program(many)
        with self.assertRaises(TooLarge):
            made_program(TOO_WIDE)

    def test_errors(self):
        for table in ((), ((1,), 1, ()), ((0,), 7, ())):
            with self.assertRaises(NotTable):
                made_program(table)
        for error in (NoAnswer, TooLarge):
            self.assertTrue(issubclass(error, CoheirError))

    def test_new_list(self):
        made_program(machines.BEHIND)[1].clear()
        self.assertEqual(len(made_program(machines.BEHIND)[1]), 4)


SMALL_COHERENT = ((0, 1), 1, ((0, 0, -1, 0, 1, -1, (0, 1), "home", "keep"),))


if __name__ == "__main__":
    unittest.main()
