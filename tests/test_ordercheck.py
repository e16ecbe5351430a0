"""The checker of orders and proofs, [300] to [305]"""

import itertools
import unittest

import machines
import orders
import papers_of_orders
import proofs_told
from coheir.coherence import is_coherent, passes
from coheir.errors import BadNumber, NoAnswer, NotObservation, NotProgram, NotTable, TooLarge
from coheir.explaining import explanation, paper_of, run_by
from coheir.making import made_program
from coheir.ordercheck import both_show, case_holds, machine_led_to, order_led_to, paper_explains, proof_holds
from coheir.papers import verdict
from coheir.samples import forgetful, mesi, mosi, msi
from coheir.tablecheck import is_never
from support import chance, changed, nearby_table, random_table

TWO = ("plain", "buffered")
NO_ORDERS = ("", "loose", "Plain", "buffered ")
NO_PROGRAMS = (
    (), ((),) * 13, ((("fence",),) * 25,), (((),),), ((("load", 4),),), ((("load", -1),),), ((("load", True),),),
    ((("store", 0, 0),),), ((("store", 0, 100),),), ((("swap", 4, 1),),), ((("swap", -1, 1),),), ((("store", 0),),), ((("load", 0, 1),),),
    ((("fence", 0),),), ((("jump",),),), ((("swap", 0, True),),), 0, (0,), ((("load", "0"),),),
)
NO_TABLES = ((), ((1,), 1, ()), ((0,), 7, ()), ((0,), 1, ((0,) * 9,)))
PAPER = ((((0, 1), (-1, -1)), ((1, 1), (-1, -1))), (((0, 0),), ((1, 0),), (), ()))
EXAMPLE_TABLE = ((0, 2), 1, ((0, 0, -1, 0, 1, -1, (0, 1), "home", "keep"),))
EXAMPLE = ((("swap", 0, 1), ("load", 0)), (("swap", 0, 2),))
EXAMPLE_RUN = [("row", 0, 0, 0, -1), ("row", 0, 0, 1, -1), ("make", 0), ("make", 1), ("make", 0)]


class RunTests(unittest.TestCase):
    """[301]"""

    def test_runs(self):
        source = chance(1)
        for _ in range(150):
            program = orders.random_program(source, most_instructions=4)
            for order in TWO:
                moves = orders.random_run(source, program, order, most=source.randint(0, 30))
                kept = list(moves)
                end = orders.end_of(program, moves, order)
                self.assertEqual(order_led_to(program, moves, order), orders.seen(end))
                self.assertEqual(moves, kept)
                more = moves + [source.choice((("make", 0), ("drain", 0), ("make", len(program) - 1)))]
                end = orders.end_of(program, more, order)
                self.assertEqual(order_led_to(program, more, order), None if end is None else orders.seen(end))

    def test_moves_that_are_none(self):
        program = ((("store", 0, 1), ("load", 0)), (("fence",),))
        for order in TWO:
            self.assertEqual(order_led_to(program, [], order), ((0, ()), (0, ())))
            for move in (("make", 2), ("make", -1), ("make", True), ("make",), ("make", 0, 0), ("drain", 1), ("drain", -1),
                         ("drain", 0, 0), ("stay", 0), ("stay", 1), (), ("row", 0, 0, 0, -1), ("make", "0")):
                for at in range(3):
                    moves = [("make", 0), ("make", 0)]
                    moves.insert(at, move)
                    self.assertIsNone(order_led_to(program, moves, order), move)
        self.assertIsNone(order_led_to(program, [("make", 0), ("drain", 0)], "plain"))
        self.assertEqual(order_led_to(program, [("make", 0), ("drain", 0)], "buffered"), ((1, ()), (0, ())))
        self.assertIsNone(order_led_to(program, [("make", 0), ("drain", 0), ("drain", 0)], "buffered"))

    def test_all_lines(self):
        """The lines and values that there are, and their beginning"""
        core = tuple(("load", line) for line in range(4)) + (("store", 3, 99), ("swap", 3, 1), ("store", 0, 1))
        moves = [("make", 0)] * 5
        self.assertEqual(order_led_to((core,), moves + [("make", 0)], "plain"), ((6, (0, 0, 0, 0, 99)),))
        self.assertIsNone(order_led_to((core,), moves + [("make", 0)], "buffered"))
        self.assertEqual(order_led_to((core,), moves + [("drain", 0), ("make", 0)], "buffered"), ((6, (0, 0, 0, 0, 99)),))

    def test_waiting_stores(self):
        """A load is told the newest one, the oldest one leaves first, swaps and fences wait"""
        stores = (("store", 0, 1), ("store", 0, 2), ("store", 1, 3))
        makes = [("make", 0)] * 3
        for last, told in ((("swap", 2, 1), (0,)), (("fence",), ())):
            program = (stores + (last,), (("load", 0), ("load", 1), ("load", 0), ("load", 1)))
            reads = [("drain", 0), ("make", 1), ("make", 1), ("drain", 0), ("make", 1), ("drain", 0), ("make", 1)]
            self.assertIsNone(order_led_to(program, makes + [("make", 0)], "buffered"))
            self.assertIsNone(order_led_to(program, makes + reads[:5] + [("make", 0)], "buffered"))
            self.assertEqual(order_led_to(program, makes + reads + [("make", 0)], "buffered"), ((4, told), (4, (1, 0, 2, 3))))
            table = ((0, 2), 1, ((0, 0, -1, 0, 1, -1, (0, 1), "home", "keep"),))
            rows = [("row", line, 0, 0, -1) for line in range(3)]
            self.assertIsNone(machine_led_to(table, program, rows + makes + [("make", 0)]))
            self.assertIsNone(machine_led_to(table, program, rows + makes + [("drain", 0)] * 2 + [("make", 0)]))
            self.assertEqual(machine_led_to(table, program, rows + makes + [("drain", 0)] * 3 + [("make", 0)]),
                             ((4, told), (0, ())))
            self.assertIsNone(machine_led_to(table, program, rows[1:] + makes + [("drain", 0)]))
            self.assertEqual(machine_led_to(table, program, rows[:1] + makes + [("drain", 0)] * 2), ((3, ()), (0, ())))
        program = (stores[:2] + (("load", 0),),)
        for moves, value in ((makes, 2), (makes[:2] + [("drain", 0), ("make", 0)], 2)):
            self.assertEqual(order_led_to(program, moves, "buffered"), ((3, (value,)),))
        self.assertEqual(machine_led_to(msi(), program, makes), ((3, (2,)),))

    def test_machines(self):
        source = chance(2)
        for _ in range(100):
            table = source.choice((msi(), mesi(), forgetful(mosi(), 4), random_table(source, 4, 3, 8)))
            program = orders.random_program(source, most_instructions=4)
            moves = machines.random_moves(source, table, program, source.randint(0, 40))
            kept = list(moves)
            self.assertEqual(machine_led_to(table, program, moves), machines.seen(machines.state_behind(table, program, moves)))
            self.assertEqual(moves, kept)
            for move in source.choices(machines.all_moves(table, program), k=4):
                at = source.randint(0, len(moves))
                more = moves[:at] + [move] + moves[at:]
                state = machines.state_behind(table, program, more)
                self.assertEqual(machine_led_to(table, program, more), None if isinstance(state, int) else machines.seen(state))

    def test_moves_of_no_machine(self):
        right = [("row", 0, 2, 0, -1), ("make", 0), ("make", 1)]
        self.assertEqual(machine_led_to(msi(), orders.STORES, right), ((1, ()), (1, ())))
        self.assertEqual(machine_led_to(msi(), orders.STORES, []), ((0, ()), (0, ())))
        for move in (("make", 2), ("make", -1), ("make", 0, 0), ("drain", 0, 0), ("drain", 1), ("stay", 0), ("make",), (),
                     ("rows", 1, 2, 0, -1), ("stay", 1), ("make", 1, 2, 0, -1),
                     ("row", 2, 1, -1), ("row", 4, 2, 0, -1), ("row", -1, 2, 0, -1), ("row", 0, 7, 0, -1), ("row", 0, -1, 0, -1),
                     ("row", 1, 2, 2, -1), ("row", 1, 2, -1, -1), ("row", 1, 2, 0, 1), ("row", 0, 3, 1, 1), ("row", True, 2, 0, -1),
                     ("load", 0), ("store", 0, 1), ("row", 1, 2, 0, -1, 0), ("row", "1", 2, 0, -1), ("row", 0, 3, 1, -1)):
            for at in range(3):
                self.assertIsNone(machine_led_to(msi(), orders.STORES, right[:at] + [move] + right[at:]), move)

    def test_rights_and_waiting(self):
        """A load of a waiting store, fences, swaps and drains with something missing"""
        program = ((("store", 0, 5), ("load", 0), ("fence",), ("swap", 1, 6), ("load", 1)),)
        own = [("make", 0), ("make", 0)]
        self.assertEqual(machine_led_to(msi(), program, own), ((2, (5,)),))
        self.assertIsNone(machine_led_to(msi(), program, own + [("make", 0)]))
        self.assertIsNone(machine_led_to(msi(), program, own + [("drain", 0)]))
        self.assertIsNone(machine_led_to(msi(), program, own + [("row", 0, 0, 0, -1), ("drain", 0)]))
        drained = own + [("row", 0, 2, 0, -1), ("drain", 0), ("make", 0)]
        self.assertEqual(machine_led_to(msi(), program, drained), ((3, (5,)),))
        self.assertIsNone(machine_led_to(msi(), program, drained + [("make", 0)]))
        self.assertIsNone(machine_led_to(msi(), program, drained + [("row", 1, 0, 0, -1), ("make", 0)]))
        swapped = drained + [("row", 1, 2, 0, -1), ("make", 0)]
        self.assertEqual(machine_led_to(msi(), program, swapped + [("make", 0)]), ((5, (5, 0, 6)),))
        self.assertIsNone(machine_led_to(msi(), program, swapped + [("row", 1, 6, 0, -1), ("make", 0)]))
        self.assertIsNone(machine_led_to(msi(), program, swapped + [("make", 0), ("make", 0)]))


class PaperTests(unittest.TestCase):
    """[205], by another look"""

    def test_all_papers(self):
        source = chance(3)
        for _ in range(60):
            program = orders.random_program(source, most_instructions=3, values=1)
            order = source.choice(orders.ORDERS)
            seen = orders.seen(orders.end_of(program, orders.random_run(source, program, order), order))
            for paper in itertools.islice(papers_of_orders.all_papers(program, seen), 100):
                for order in TWO:
                    self.assertIs(paper_explains(program, seen, paper, order),
                                  papers_of_orders.explains(program, seen, paper, order))

    def test_all_observations(self):
        """All observations and all papers that fit, of programs with two cores"""
        source = chance(8)
        for _ in range(300):
            program = orders.random_program(source, most_cores=2, values=1)
            observations = papers_of_orders.all_observations(program, (0, 1))
            for seen in source.sample(observations, min(20, len(observations))):
                for paper in papers_of_orders.all_papers(program, seen):
                    if papers_of_orders.fits(program, seen, paper):
                        for order in TWO:
                            self.assertIs(paper_explains(program, seen, paper, order),
                                          papers_of_orders.explains(program, seen, paper, order))

    def test_what_stands_between(self):
        """Two cores that each make two instructions, with each word between them; values of the own buffer among them"""
        source = chance(9)
        words = (None, ("load", 0), ("load", 1), ("load", 2), ("store", 2, 1), ("store", 0, 1), ("swap", 2, 1), ("fence",))
        found = []
        for base in (orders.STORES, orders.MESSAGE):
            for between in itertools.product(words, repeat=2):
                program = tuple(tuple(word for word in (core[0], told, core[1]) if word)
                                for core, told in zip(base, between))
                whole = [seen for seen in papers_of_orders.all_observations(program, (0, 1))
                         if all(made == len(core) for (made, _), core in zip(seen, program))]
                for seen in source.sample(whole, min(16, len(whole))):
                    for paper in papers_of_orders.all_papers(program, seen):
                        if papers_of_orders.fits(program, seen, paper):
                            for order in TWO:
                                found.append(paper_explains(program, seen, paper, order))
                                self.assertIs(found[-1], papers_of_orders.explains(program, seen, paper, order))
        self.assertGreater(min(found.count(True), found.count(False)), 500)

    def test_values_of_the_own_buffer(self):
        """[207]: both cores read their own store early, and the other one's late"""
        program = ((("store", 0, 1), ("load", 0), ("load", 1)), (("store", 1, 1), ("load", 1), ("load", 0)))
        seen = ((3, (1, 0)), (3, (1, 0)))
        paper = ((((0, 1), (0, 0)), ((0, 2), (-1, -1)), ((1, 1), (1, 0)), ((1, 2), (-1, -1))),
                 (((0, 0),), ((1, 0),), (), ()))
        self.assertIs(paper_explains(program, seen, paper, "buffered"), True)
        self.assertIs(paper_explains(program, seen, paper, "plain"), False)

    def test_example(self):
        """[208]"""
        self.assertIs(paper_explains(orders.STORES, orders.BOTH_ZERO, PAPER, "plain"), False)
        self.assertIs(paper_explains(orders.STORES, orders.BOTH_ZERO, PAPER, "buffered"), True)

    def test_by_lines_alone(self):
        program = ((("store", 0, 1), ("load", 0)),)
        paper = ((((0, 1), (-1, -1)),), (((0, 0),), (), (), ()))
        self.assertIs(paper_explains(program, ((2, (0,)),), paper, "buffered"), False)
        self.assertIs(paper_explains(program, ((2, (1,)),), changed(paper, 0, (((0, 1), (0, 0)),)), "buffered"), True)

    def test_what_is_no_paper(self):
        sources, lines = PAPER
        wrong = [(), (sources,), (sources, lines, ()), (sources, lines[:3]), (sources, lines + ((),)), (sources, ()),
                 (lines, sources), (sources[1:], lines), (sources[::-1], lines), (sources + sources[:1], lines),
                 (sources, (((0, 0), (0, 0)),) + lines[1:]), (sources, ((),) + lines[1:]), (sources, (((1, 0),),) + lines[1:]),
                 (sources, lines[:2] + (((0, 0),), ())), (sources, (((0, 0, 0),),) + lines[1:]), (sources, (5,) + lines[1:]),
                 (sources, (((False, 0),),) + lines[1:]), (5, lines), (sources, 5), ((((0, 1), (-1, 0)),) + sources[1:], lines),
                 ((((0, 1), (-1, -1, -1)),) + sources[1:], lines), ((((0, 1),),) + sources[1:], lines), 0,
                 ((((0, 1), (1, 0)),) + sources[1:], lines), ((((0, 1), (0, 0)),) + sources[1:], lines),
                 ((((False, 1), (-1, -1)),) + sources[1:], lines), ((((0, 1, 0), (-1, -1)),) + sources[1:], lines),
                 ((((0, 1), (-1, -1), 0),) + sources[1:], lines), ((((0, True), (-1, -1)),) + sources[1:], lines),
                 ((((0, 1), (7, 7)),) + sources[1:], lines), ((((0, 1), (0, 1)),) + sources[1:], lines)]
        for paper in wrong:
            for order in TWO:
                self.assertIs(paper_explains(orders.STORES, orders.BOTH_ZERO, paper, order), False, paper)

    def test_values_that_are_no_integers(self):
        """True and False stand for nothing"""
        program = ((("store", 0, 1),), (("load", 0),))
        lines = (((0, 0),), (), (), ())
        self.assertIs(paper_explains(program, ((1, ()), (1, (1,))), ((((1, 0), (0, 0)),), lines), "plain"), True)
        for source in ((False, 0), (0, False), (0, 0, 0), (0,), 0):
            self.assertIs(paper_explains(program, ((1, ()), (1, (1,))), ((((1, 0), source),), lines), "plain"), False)

    def test_sources_and_swaps(self):
        """Another value, another line, an event that is its own source, a swap that does not stand behind its source"""
        program = ((("swap", 0, 1),), (("store", 0, 2),), (("store", 0, 3), ("store", 1, 2)))
        for row in itertools.permutations([(0, 0), (1, 0), (2, 0)]):
            lines = (row, ((2, 1),), (), ())
            for value in (0, 1, 2, 3, -1):
                for source in ((-1, -1), (0, 0), (1, 0), (2, 0), (2, 1)):
                    seen = ((1, (value,)), (1, ()), (2, ()))
                    paper = ((((0, 0), source),), lines)
                    self.assertIs(paper_explains(program, seen, paper, "plain"),
                                  papers_of_orders.explains(program, seen, paper, "plain"))
        own = ((("swap", 0, 1),),)
        self.assertIs(paper_explains(own, ((1, (1,)),), ((((0, 0), (0, 0)),), (((0, 0),), (), (), ())), "plain"), False)

    def test_papers_of_runs(self):
        """Papers of runs, runs of papers, and both together"""
        source = chance(4)
        for _ in range(80):
            program = orders.random_program(source, most_cores=4, most_instructions=6, lines=3)
            for order in TWO:
                moves = orders.random_run(source, program, order, most=source.randint(0, 60))
                seen, paper = paper_of(program, moves, order)
                self.assertIs(paper_explains(program, seen, paper, order), True)
                self.assertIs(both_show(program, seen, moves, paper, order), True)
                self.assertIs(both_show(program, seen, run_by(program, seen, paper, order), paper, order), True)
                if moves:
                    self.assertIs(both_show(program, seen, moves + [("stay", 0)], paper, order), False)
                    fewer = moves[:-1]
                    same = orders.seen(orders.end_of(program, fewer, order)) == seen
                    self.assertIs(both_show(program, seen, fewer, paper, order), same)
                if paper[0]:
                    self.assertIs(both_show(program, seen, moves, changed(paper, 0, paper[0][1:]), order), False)

    def test_both_show(self):
        """[301]: a run to this observation, and a paper by this order"""
        run = [("make", 0), ("make", 0), ("make", 1), ("make", 1)]
        self.assertIs(both_show(orders.STORES, orders.BOTH_ZERO, run, PAPER, "buffered"), True)
        self.assertIs(both_show(orders.STORES, orders.BOTH_ZERO, run + [("drain", 1)], PAPER, "buffered"), True)
        self.assertIs(both_show(orders.STORES, orders.BOTH_ZERO, run, PAPER, "plain"), False)
        self.assertIs(both_show(orders.STORES, orders.BOTH_ZERO, run[:-1], PAPER, "buffered"), False)
        self.assertIs(both_show(orders.STORES, orders.BOTH_ZERO, run + run, PAPER, "buffered"), False)
        self.assertIs(both_show(orders.STORES, ((2, (0,)), (2, (1,))), run, PAPER, "buffered"), False)

    def test_full_programs(self):
        """Twelve cores with 24 instructions each"""
        program = orders.with_far_more_states()
        for order in TWO:
            moves = orders.random_run(chance(5), program, order, most=1000)
            seen, paper = paper_of(program, moves, order)
            self.assertIs(both_show(program, seen, moves, paper, order), True)
            line = paper[1][0]
            self.assertIs(paper_explains(program, seen, changed(paper, 1, (line[::-1],) + paper[1][1:]), order), False)


class ProofTests(unittest.TestCase):
    def test_proofs(self):
        for program, seen, proof in list(proofs_told.CASES) + proofs_told.broken_ones() + proofs_told.random_ones(6, 2000):
            self.assertIs(proof_holds(program, seen, proof), proofs_told.is_right(program, seen, proof), (program, seen, proof))
        for program, seen, proof in proofs_told.CASES:
            self.assertIs(proof_holds(program, seen, proof), True)
            for wrong in ((), proof[:2], proof + (0,), 0, (proof[0], list(proof[1]), proof[2]), (proof[0], 0, proof[2]),
                          (proof[0], proof[1], str(proof[2])), (proof[0], proof[1] + (0,), proof[2]),
                          (proof[0], proof[1] + ((0,),), proof[2]), (proof[0], proof[1] + ((0, 0, 0),), proof[2]),
                          ("flag", ((0, 0), (1, True)), 2), ("flag", ((False, 0), (1, 1)), 2),
                          ("flag", ((0, 0, 0), (1, 1)), 2)):
                self.assertIs(proof_holds(program, seen, wrong), False)
        self.assertIs(proof_holds(
            proofs_told.BEHIND_PROGRAM, proofs_told.BEHIND_SEEN, changed(proofs_told.BEHIND, 2, True)), False)
        for program, seen, proof, wanted in proofs_told.NEARLY:
            self.assertIs(proof_holds(program, seen, proof), wanted)

    def test_no_proof_and_paper(self):
        """[304]"""
        for program, seen, proof in proofs_told.CASES:
            self.assertIs(proof_holds(program, seen, proof), True)
            self.assertIsNone(explanation(program, seen, "buffered"))


class CaseTests(unittest.TestCase):
    """[302], [303], [305]"""

    def test_example(self):
        self.assertEqual(machine_led_to(EXAMPLE_TABLE, EXAMPLE, EXAMPLE_RUN), ((2, (0, 1)), (1, (0,))))
        chains = [chain for size in range(4) for chain in itertools.product([(0, 0), (0, 1), (1, 0)], repeat=size)]
        for word in ("nothing", "behind", "flag"):
            for chain in chains:
                for reader in (-1, 0, 1, 2):
                    self.assertIs(case_holds(EXAMPLE_TABLE, EXAMPLE, EXAMPLE_RUN, (word, chain, reader)), False)

    def test_made_programs(self):
        """A table that passes has a right case if it is not coherent, and none that has a never-paper"""
        source = chance(7)
        count = 0
        for _ in range(150):
            table = nearby_table(source, source.choice((msi(), mesi(), mosi())))
            try:
                made = made_program(table)
            except NoAnswer:
                self.assertFalse(passes(table))
                continue
            self.assertEqual(made is None, is_coherent(table))
            if made is None:
                continue
            count += 1
            program, moves, proof = made
            kept = list(moves)
            self.assertIs(case_holds(table, program, moves, proof), True)
            self.assertEqual(moves, kept)
            self.assertIs(proof_holds(program, machine_led_to(table, program, moves), proof), True)
            self.assertFalse(is_never(table, verdict(table)))
            self.assertIs(case_holds(table, program, moves + [("make", 0)] * 9, proof), False)
            self.assertIs(case_holds(table, program, moves[:-1], proof), False)
            for other in (msi(), mesi(), mosi()):
                self.assertIs(case_holds(other, program, moves, proof), False)
        self.assertGreater(count, 10)

    def test_each_word(self):
        for table, word in ((machines.NOTHING, "nothing"), (machines.BEHIND, "behind"), (forgetful(msi(), 4), "flag")):
            program, moves, proof = made_program(table)
            self.assertEqual(proof[0], word)
            self.assertIs(case_holds(table, program, moves, proof), True)
            for at in range(len(moves)):
                self.assertIs(case_holds(table, program, moves[:at] + [("jump", 0)] + moves[at:], proof), False)
            for other in ("nothing", "behind", "flag", ""):
                self.assertIs(case_holds(table, program, moves, (other,) + proof[1:]), other == word)
        with self.assertRaises(TooLarge):
            made_program(machines.counting(13))

    def test_large_cases(self):
        program, moves, proof = made_program(machines.counting(12))
        self.assertIs(case_holds(machines.counting(12), program, moves, proof), True)


class ErrorTests(unittest.TestCase):
    def test_no_table(self):
        for table in NO_TABLES:
            for program in NO_PROGRAMS + (orders.STORES,):
                with self.assertRaises(NotTable):
                    machine_led_to(table, program, [("jump",)])
                with self.assertRaises(NotTable):
                    case_holds(table, program, [], ())

    def test_no_program(self):
        for program in NO_PROGRAMS:
            for order in NO_ORDERS + TWO:
                for call in (lambda: order_led_to(program, [], order), lambda: paper_explains(program, (), (), order),
                             lambda: both_show(program, (), [], (), order), lambda: proof_holds(program, (), ()),
                             lambda: machine_led_to(msi(), program, []), lambda: case_holds(msi(), program, [], ())):
                    with self.assertRaises(NotProgram):
                        call()

    def test_no_observation(self):
        program = ((("load", 0), ("store", 1, 5), ("swap", 1, 3)), (("fence",),))
        wrong = [(), ((0, ()),), ((0, ()),) * 3, ((0, ()), ()), ((4, (0, 0)), (0, ())), ((-1, ()), (0, ())), ((0, ()), (-1, ())),
                 ((1, ()), (0, ())), ((1, (0, 0)), (0, ())), ((3, (0,)), (0, ())), ((0, (0,)), (0, ())), 0,
                 ((0, ()), (2, ())), ((0, ()), (1, (1,))), ((0, (), ()), (0, (), ())), ((True, (0,)), (0, ())),
                 ((1, (False,)), (0, ())), ((1, 0), (0, ())), ((1, ("0",)), (0, ()))]
        for seen in wrong:
            for order in NO_ORDERS + TWO:
                for call in (lambda: paper_explains(program, seen, (), order), lambda: both_show(program, seen, [], (), order),
                             lambda: proof_holds(program, seen, ())):
                    with self.assertRaises(NotObservation):
                        call()
        self.assertIs(proof_holds(program, ((3, (-7, 10 ** 30)), (1, ())), ()), False)

    def test_no_order(self):
        for order in NO_ORDERS:
            for call in (lambda: order_led_to(orders.STORES, [("jump",)], order),
                         lambda: paper_explains(orders.STORES, orders.BOTH_ZERO, (), order),
                         lambda: both_show(orders.STORES, orders.BOTH_ZERO, [("jump",)], (), order)):
                with self.assertRaises(BadNumber):
                    call()


if __name__ == "__main__":
    unittest.main()
