"""From runs to papers and back, [206]"""

import itertools
import unittest

import orders
import papers_of_orders as told
from coheir.errors import BadMove, BadNumber, NoAnswer, NotObservation, NotProgram, TooLarge
from coheir.explaining import explanation, paper_of, run_by
from support import chance

NO_ORDERS = ("", "Plain", "plain ", "loosely")


def drained(order, c, line):
    return ("drain", c) if order == "buffered" else ("drain", c, line)


def read_off(program, moves, order):
    """Return the paper of a run, as [206] tells it, by a look at each prefix of the run."""
    sources, lines = {}, [[], [], [], []]
    waiting = [[] for _ in program]
    made = [0] * len(program)

    def leave(c, line=None):
        for event in waiting[c]:
            if line is None or program[c][event[1]][1] == line:
                waiting[c].remove(event)
                lines[program[c][event[1]][1]].append(event)
                return

    for move in moves:
        c = move[1]
        if move[0] == "drain":
            leave(c, move[2] if len(move) == 3 else None)
            continue
        event, instruction = (c, made[c]), program[c][made[c]]
        made[c] += 1
        if instruction[0] in ("load", "swap"):
            own = [e for e in waiting[c] if program[c][e[1]][1] == instruction[1]]
            sources[event] = (lines[instruction[1]] + own or [(-1, -1)])[-1]
        if instruction[0] == "swap" or (instruction[0] == "store" and order == "plain"):
            lines[instruction[1]].append(event)
        elif instruction[0] == "store":
            waiting[c].append(event)
    for c in range(len(program)):
        while waiting[c]:
            leave(c)
    return (tuple(sorted(sources.items())), tuple(map(tuple, lines)))


class PaperTests(unittest.TestCase):
    def test_written_out(self):
        """Sources in the own buffer, sources that have come, and what waits at the end"""
        program = (
            (("store", 0, 1), ("store", 1, 2), ("load", 0), ("load", 1)),
            (("store", 1, 3), ("store", 0, 4), ("load", 0), ("swap", 2, 9)),
        )
        moves = [("make", 0), ("make", 0), ("make", 1), ("make", 1), ("make", 0), ("drain", 1), ("make", 1), ("make", 0)]
        seen = ((4, (1, 2)), (3, (4,)))
        sources = (((0, 2), (0, 0)), ((0, 3), (0, 1)), ((1, 2), (1, 1)))
        self.assertEqual(paper_of(program, moves, "buffered"),
                         (seen, (sources, (((0, 0), (1, 1)), ((1, 0), (0, 1)), (), ()))))
        loosely = [("drain", 1, 0) if move == ("drain", 1) else move for move in moves]
        self.assertEqual(paper_of(program, loosely, "loose"),
                         (seen, (sources, (((1, 1), (0, 0)), ((0, 1), (1, 0)), (), ()))))
        moves = [("make", 0), ("make", 1), ("make", 1), ("make", 1), ("make", 1), ("make", 0), ("make", 0)]
        self.assertEqual(paper_of(program, moves, "plain"), (
            ((3, (4,)), (4, (4, 0))),
            ((((0, 2), (1, 1)), ((1, 2), (1, 1)), ((1, 3), (-1, -1))), (((0, 0), (1, 1)), ((1, 0), (0, 1)), ((1, 3),), ()))))

    def test_small_ones(self):
        for order in orders.ORDERS:
            self.assertEqual(paper_of(((),), [], order), (((0, ()),), ((), ((), (), (), ()))))
            self.assertEqual(paper_of(orders.STORES, [], order), (((0, ()), (0, ())), ((), ((), (), (), ()))))
            core = (("swap", 3, 5), ("fence",), ("swap", 3, 6))
            self.assertEqual(paper_of((core,), [("make", 0)] * 3, order), (
                ((3, (0, 5)),), ((((0, 0), (-1, -1)), ((0, 2), (0, 0))), ((), (), (), ((0, 0), (0, 2))))))

    def test_chance(self):
        """Each run has a paper that explains what it leads to"""
        source = chance(1)
        for _ in range(200):
            program = orders.random_program(source, most_instructions=4)
            for order in orders.ORDERS:
                moves = orders.random_run(source, program, order, most=source.randint(0, 30))
                kept = list(moves)
                seen, paper = paper_of(program, moves, order)
                self.assertEqual(moves, kept)
                self.assertEqual(seen, orders.seen(orders.end_of(program, moves, order)))
                self.assertEqual(paper, read_off(program, moves, order))
                self.assertTrue(told.explains(program, seen, paper, order), (program, moves, order))

    def test_errors(self):
        """NotProgram, BadNumber, BadMove"""
        for order in orders.ORDERS + NO_ORDERS:
            with self.assertRaises(NotProgram):
                paper_of((), [("jump", 0)], order)
        for order in NO_ORDERS:
            with self.assertRaises(BadNumber):
                paper_of(orders.STORES, [("jump", 0)], order)
        wrong = {"plain": ("drain", 0), "buffered": ("drain", 0, 0), "loose": ("drain", 0)}
        for order in orders.ORDERS:
            for move in (wrong[order], ("make", 2), ("make", -1), ("make", 0, 0), ("stay", 0)):
                with self.assertRaises(BadMove) as caught:
                    paper_of(orders.STORES, [("make", 0), move, ("jump", 0)], order)
                self.assertEqual(caught.exception.at, 1)


class ExplanationTests(unittest.TestCase):
    def test_all_observations(self):
        """A run and a paper for what comes, None for all else"""
        source = chance(2)
        for _ in range(40):
            program = orders.random_program(source, most_cores=2, values=1)
            for order in orders.ORDERS:
                coming = {orders.seen(state) for state in orders.all_states(program, order)}
                for seen in coming:
                    moves, paper = explanation(program, seen, order)
                    self.assertEqual(orders.seen(orders.end_of(program, moves, order)), seen)
                    self.assertTrue(told.explains(program, seen, paper, order))
                for seen in itertools.islice(told.all_observations(program, (0, 1, -3)), 60):
                    self.assertEqual(explanation(program, seen, order) is None, seen not in coming)

    def test_example(self):
        """[208]"""
        self.assertIsNone(explanation(orders.STORES, orders.BOTH_ZERO, "plain"))
        paper = ((((0, 1), (-1, -1)), ((1, 1), (-1, -1))), (((0, 0),), ((1, 0),), (), ()))
        for order in ("buffered", "loose"):
            self.assertEqual(explanation(orders.STORES, orders.BOTH_ZERO, order)[1], paper)
        seen = ((2, ()), (2, (1, 0)))
        self.assertIsNone(explanation(orders.MESSAGE, seen, "buffered"))
        self.assertIsNotNone(explanation(orders.MESSAGE, seen, "loose"))

    def test_errors(self):
        """NotProgram, NotObservation, BadNumber, TooLarge"""
        large = orders.with_far_more_states()
        for order in NO_ORDERS:
            with self.assertRaises(NotProgram):
                explanation((), (), order)
            with self.assertRaises(NotObservation):
                explanation(large, (), order)
            with self.assertRaises(BadNumber):
                explanation(large, ((0, ()),) * 12, order)
        for order in orders.ORDERS:
            more = orders.with_more_states(order)
            with self.assertRaises(TooLarge):
                explanation(more, ((1, (7,)),) + ((0, ()),) * (len(more) - 1), order)
            with self.assertRaises(TooLarge):
                explanation(more, ((0, ()),) * len(more), order)
            self.assertIsNone(explanation(more[:-1], ((1, (7,)),) + ((0, ()),) * (len(more) - 2), order))
            most = orders.with_most_states()
            self.assertEqual(explanation(most, ((0, ()),) * 9, order), ([], ((), ((), (), (), ()))))


class RunByTests(unittest.TestCase):
    def check(self, program, seen, paper, order):
        """The run leads to the observation, nothing waits, and values come to the lines as the paper tells."""
        moves = run_by(program, seen, paper, order)
        state = orders.end_of(program, moves, order)
        self.assertIsNotNone(state, (program, paper, order, moves))
        self.assertEqual(orders.seen(state), seen)
        self.assertTrue(all(core[1] == () for core in state[1]) or order == "plain")
        self.assertEqual(read_off(program, moves, order)[1], paper[1])
        for event, source in paper[0]:
            values = [told.at(program, one)[2] if one != (-1, -1) else 0
                      for one in (source, dict(read_off(program, moves, order)[0])[event])]
            self.assertEqual(*values)

    def test_all_papers(self):
        """A run for each paper that explains, NoAnswer for all others"""
        source = chance(3)
        for _ in range(60):
            program = orders.random_program(source, most_instructions=3, values=1)
            moves = orders.random_run(source, program, "loose", most=source.randint(3, 30))
            seen = orders.seen(orders.end_of(program, moves, "loose"))
            for paper in itertools.islice(told.all_papers(program, seen), 80):
                for order in orders.ORDERS:
                    if told.explains(program, seen, paper, order):
                        self.check(program, seen, paper, order)
                    else:
                        with self.assertRaises(NoAnswer):
                            run_by(program, seen, paper, order)

    def test_papers_of_runs(self):
        source = chance(4)
        for _ in range(100):
            program = orders.random_program(source, most_cores=5, most_instructions=8, lines=4)
            for order in orders.ORDERS:
                moves = orders.random_run(source, program, order, most=source.randint(0, 80))
                seen, paper = paper_of(program, moves, order)
                self.check(program, seen, paper, order)

    def test_full_programs(self):
        """Twelve cores with 24 instructions each"""
        source = chance(5)
        words = ("load", "load", "store", "store", "swap", "fence")
        program = tuple(tuple({"load": ("load", source.randrange(4)), "fence": ("fence",)}.get(
            word, (word, source.randrange(4), source.randint(1, 9)))
            for word in [source.choice(words) for _ in range(24)]) for _ in range(12))
        for order in orders.ORDERS:
            moves = orders.random_run(source, program, order, most=1000)
            seen, paper = paper_of(program, moves, order)
            self.assertEqual([made for made, _ in seen], [24] * 12)
            self.check(program, seen, paper, order)

    def test_events_without_pairs(self):
        """Cores with one instruction, and nothing at all"""
        program = ((("store", 0, 1), ("load", 1)), (("fence",),), ())
        paper = ((((0, 1), (-1, -1)),), (((0, 0),), (), (), ()))
        for order in orders.ORDERS:
            self.check(program, ((2, (0,)), (1, ()), (0, ())), paper, order)
            self.assertEqual(run_by(((),), ((0, ()),), ((), ((), (), (), ())), order), [])

    def test_errors(self):
        """NotProgram, NotObservation, BadNumber, NoAnswer"""
        paper = ((((0, 1), (-1, -1)), ((1, 1), (-1, -1))), (((0, 0),), ((1, 0),), (), ()))
        for order in NO_ORDERS:
            with self.assertRaises(NotProgram):
                run_by((), (), (), order)
            with self.assertRaises(NotObservation):
                run_by(orders.STORES, (), (), order)
            for told_paper in ((), paper):
                with self.assertRaises(BadNumber):
                    run_by(orders.STORES, orders.BOTH_ZERO, told_paper, order)
        for order in orders.ORDERS:
            for wrong in ((), (paper[0], paper[1][:3]), (paper[0], ((), ((1, 0),), (), ()))):
                with self.assertRaises(NoAnswer):
                    run_by(orders.STORES, orders.BOTH_ZERO, wrong, order)
        with self.assertRaises(NoAnswer):
            run_by(orders.STORES, orders.BOTH_ZERO, paper, "plain")

    def test_new_list(self):
        paper = ((((0, 1), (-1, -1)), ((1, 1), (-1, -1))), (((0, 0),), ((1, 0),), (), ()))
        moves = run_by(orders.STORES, orders.BOTH_ZERO, paper, "loose")
        kept = list(moves)
        moves.clear()
        self.assertEqual(run_by(orders.STORES, orders.BOTH_ZERO, paper, "loose"), kept)
        explanation(orders.STORES, orders.BOTH_ZERO, "loose")[0].clear()
        self.assertEqual(len(explanation(orders.STORES, orders.BOTH_ZERO, "loose")[0]), 4)


if __name__ == "__main__":
    unittest.main()
