"""Tables that give caches their rights, [254] and [255]"""

import unittest

import machines
import orders
from coheir.buffered import buffered_run
from coheir.coherence import is_coherent
from coheir.errors import BadMove, BadNumber, NotProgram, NotTable, TooLarge
from coheir.giving import gives, realized
from coheir.machine import shadow, sight
from coheir.samples import forgetful, mesi, mosi, msi
from coheir.tables import without_rows
from support import NO_ROWS, SMALL, chance, random_table


def step(table, state, r, k, j):
    """Return the states behind a row, or None; copies are left out."""
    home, caches = state
    line = {"home": home, "value": 0, "states": list(caches), "copies": [0] * len(caches)}
    if not machines.can_row(table, line, r, k, j):
        return None
    machines.make_row(table, line, r, k, j)
    return (line["home"], tuple(line["states"]))


def behind(table, state):
    """Return the set of the states behind all rows that can be made."""
    n = len(state[1])
    found = {step(table, state, r, k, j) for r in range(len(table[2])) for k in range(n) for j in range(-1, n)}
    return found - {None}


def reached_from(table, state):
    reached, left = {state}, [state]
    while left:
        more = behind(table, left.pop()) - reached
        reached |= more
        left.extend(more)
    return reached


def does_give(table, n):
    """[254], word by word"""
    return all(any(table[0][later[1][k]] == 2 for later in reached_from(table, state))
               for state in reached_from(table, (0, (0,) * n)) for k in range(n))


class GiveTests(unittest.TestCase):
    def test_samples(self):
        for table in (msi(), mesi(), mosi(), forgetful(msi(), 4)):
            self.assertEqual([gives(table, n) for n in (1, 2, 3, 4)], [True] * 4)
        self.assertEqual([gives(NO_ROWS, n) for n in (1, 2, 3, 4)], [False] * 4)
        self.assertEqual([gives(SMALL, n) for n in (1, 2, 3, 4)], [True] * 4)

    def test_only_with_few_caches(self):
        """A cache that never drops the line; a partner that there is not"""
        alone = ((0, 2), 2, ((0, 0, -1, 1, 1, -1, (0, 1), "home", "keep"),))
        self.assertEqual([gives(alone, n) for n in (1, 2, 3, 4)], [True, False, False, False])
        both = ((0, 2), 1, ((0, 0, 0, 0, 1, 0, (0, 1), "home", "keep"), (0, 1, -1, 0, 0, -1, (0, 1), "keep", "own")))
        self.assertEqual([gives(both, n) for n in (1, 2, 3, 4)], [False, True, True, True])
        third = ((0, 0, 2), 2, ((0, 0, 0, 1, 1, 1, (0, 1, 2), "keep", "keep"), (1, 1, 0, 0, 2, 0, (0, 0, 2), "keep", "keep"),
                                (0, 2, -1, 0, 0, -1, (0, 1, 2), "keep", "keep")))
        self.assertEqual([gives(third, n) for n in (1, 2, 3, 4)], [does_give(third, n) for n in (1, 2, 3, 4)])

    def test_some_caches_alone(self):
        """Some cache has the right, but not from each state each cache"""
        dead = ((0, 2, 0), 1, ((0, 0, -1, 0, 1, -1, (0, 1, 2), "home", "keep"), (0, 0, -1, 0, 2, -1, (0, 1, 2), "keep", "keep")))
        self.assertIs(gives(dead, 1), False)
        self.assertIs(gives(without_rows(dead, [1]), 4), True)

    def test_right_one_is_not_enough(self):
        self.assertIs(gives(machines.NOTHING, 1), False)

    def test_chance(self):
        source = chance(1)
        found = []
        for _ in range(300):
            table = random_table(source, most_states=3, most_homes=2, most_rows=8)
            for n in (1, 2, 3):
                found.append(gives(table, n))
                self.assertIs(found[-1], does_give(table, n))
        self.assertGreater(found.count(True), 50)
        for _ in range(10):
            table = random_table(source, most_states=3, most_homes=2, most_rows=8)
            self.assertIs(gives(table, 4), does_give(table, 4))

    def test_errors(self):
        """NotTable, BadNumber"""
        for n in (0, 1, 5):
            with self.assertRaises(NotTable):
                gives(((1,), 1, ()), n)
        for n in (0, 5, -1, 10 ** 20, True):
            with self.assertRaises(BadNumber):
                gives(msi(), n)


class RealizedTests(unittest.TestCase):
    def fewest_rows(self, table, program, run, move):
        """Return how few rows of its line lead to the right that a move needs, or None."""
        state = machines.machine_begin(len(program))
        for made in run:
            machines.step(table, program, state, made)
        if move[0] == "drain":
            line, right = state["buffer"][move[1]][0][0], 2
        else:
            word, *rest = program[move[1]][state["made"][move[1]]]
            if word not in ("load", "swap") or (word == "load" and any(l == rest[0] for l, _ in state["buffer"][move[1]])):
                return 0
            line, right = rest[0], 1 if word == "load" else 2
        begin = (state["lines"][line]["home"], tuple(state["lines"][line]["states"]))
        reached, layer, length = {begin}, {begin}, 0
        while layer and not any(table[0][one[1][move[1]]] >= right for one in layer):
            layer = {later for one in layer for later in behind(table, one)} - reached
            reached |= layer
            length += 1
        return length if layer else None

    def check(self, table, program, moves):
        """The run is one of the machine, its shadow is the list, and no move has more rows ahead of it than it needs."""
        kept = list(moves)
        run = realized(table, program, moves)
        self.assertEqual(moves, kept)
        self.assertEqual(shadow(run), moves)
        state = machines.state_behind(table, program, run)
        self.assertNotIsInstance(state, int)
        ahead = []
        for at, move in enumerate(run):
            if move[0] == "row":
                ahead.append(move)
                continue
            self.assertEqual(len(ahead), self.fewest_rows(table, program, run[:at - len(ahead)], move))
            ahead = []
        self.assertEqual(ahead, [])
        return run

    def test_buffered_runs(self):
        """[255]: each buffered run is the shadow of a run that is told the same"""
        source = chance(2)
        for _ in range(60):
            table = source.choice((msi(), mesi(), mosi()))
            program = orders.random_program(source, most_cores=4, most_instructions=4, lines=source.choice((1, 2, 4)))
            moves = orders.random_run(source, program, "buffered", most=source.randint(0, 40))
            run = self.check(table, program, moves)
            self.assertEqual(machines.seen(machines.state_behind(table, program, run)),
                             orders.seen(orders.end_of(program, moves, "buffered")))

    def test_sights_are_the_buffered_observations(self):
        """[255]"""
        source = chance(3)
        for _ in range(15):
            program = orders.random_program(source, most_cores=2)
            for seen in {orders.seen(state) for state in orders.all_states(program, "buffered")}:
                for table in (msi(), mosi()):
                    run = realized(table, program, buffered_run(program, seen))
                    self.assertEqual(sight(table, program, run), seen)

    def test_four_and_five_cores(self):
        program = ((("swap", 0, 1), ("load", 0)),) * 4
        moves = [("make", c) for c in range(4)] + [("make", 3 - c) for c in range(4)]
        self.check(mosi(), program, moves)
        for told in ([], moves, [("jump", 0)]):
            with self.assertRaises(TooLarge):
                realized(mosi(), program + ((),), told)

    def test_moves_that_are_not_allowed(self):
        """Not in the buffered run, or without the right that is needed"""
        program = ((("store", 0, 1), ("swap", 1, 2)), (("load", 0),))
        right = [("make", 0), ("drain", 0), ("make", 1)]
        wrong = [("row", 0, 2, 0, -1), ("make", 2), ("make", -1), ("drain", 1), ("drain", 2), ("make", 0, 0), ("stay", 0)]
        for move in wrong:
            for at in range(len(right) + 1):
                with self.assertRaises(BadMove) as caught:
                    realized(msi(), program, right[:at] + [move] + right[at:] + [("stay", 0)])
                self.assertEqual(caught.exception.at, at)
        with self.assertRaises(BadMove) as caught:
            realized(msi(), program, [("make", 0), ("make", 0)])
        self.assertEqual(caught.exception.at, 1)
        self.assertEqual(realized(NO_ROWS, program, [("make", 0)]), [("make", 0)])
        for moves, at in (([("make", 0), ("drain", 0)], 1), ([("make", 1)], 0)):
            with self.assertRaises(BadMove) as caught:
                realized(NO_ROWS, program, moves)
            self.assertEqual(caught.exception.at, at)
        read_alone = ((0, 1), 1, machines.NOTHING[2])
        self.assertEqual(realized(read_alone, program, [("make", 1)]), [("row", 0, 0, 1, -1), ("make", 1)])
        with self.assertRaises(BadMove) as caught:
            realized(read_alone, program, [("make", 1), ("make", 0), ("drain", 0)])
        self.assertEqual(caught.exception.at, 2)

    def test_tables_by_chance(self):
        """Tables that need not be coherent, nor give rights: BadMove exactly where no rows lead to the right"""
        source = chance(4)
        refused = 0
        for _ in range(150):
            table = random_table(source, most_states=3, most_homes=2, most_rows=6)
            program = orders.random_program(source, most_cores=3)
            moves = orders.random_run(source, program, "buffered")
            try:
                self.check(table, program, moves)
            except BadMove as e:
                refused += 1
                run = self.check(table, program, moves[:e.at])
                self.assertIsNone(self.fewest_rows(table, program, run, moves[e.at]))
                self.assertFalse(is_coherent(table) and gives(table, len(program)))
        self.assertGreater(refused, 20)

    def test_errors(self):
        """NotTable, NotProgram, TooLarge, BadMove"""
        with self.assertRaises(NotTable):
            realized((), (), [("jump", 0)])
        with self.assertRaises(NotProgram):
            realized(msi(), ((("load", 4),),) * 5, [("jump", 0)])
        realized(msi(), orders.STORES, [("make", 0)]).clear()
        self.assertEqual(realized(msi(), orders.STORES, [("make", 0)]), [("make", 0)])
        self.assertEqual(realized(msi(), ((),), []), [])


if __name__ == "__main__":
    unittest.main()
