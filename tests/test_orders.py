"""The plain, the buffered and the loose order, [170] to [186] and [490] to [493]."""

import itertools
import unittest

import orders
from coheir import buffered, loose, plain
from coheir.errors import BadMove, NoAnswer, NotObservation, NotProgram, NotState, TooLarge
from coheir.programs import beginning, with_cores, with_lines
from support import chance, changed

MODULES = {"plain": plain, "buffered": buffered, "loose": loose}
NO_PROGRAMS = ((), ((),) * 13, ((("load", 4),),), ((("store", 0, 0),),), ((("fence",),) * 25,), ((("jump", 0),),))


def told(order, name):
    """Return the function of an order by its common name."""
    short = name.replace("X", order)
    return getattr(MODULES[order], short)


def programs(seed, count, **sizes):
    source = chance(seed)
    return [orders.random_program(source, **sizes) for _ in range(count)]


class EachOrder(unittest.TestCase):
    """What is the same for the three orders."""

    def test_beginning(self):
        """[170], [180], [490]"""
        self.assertEqual(plain.begin_plain(orders.STORES), ((0, 0, 0, 0), ((0, ()), (0, ()))))
        self.assertEqual(buffered.begin_buffered(orders.STORES), ((0, 0, 0, 0), ((0, (), ()), (0, (), ()))))
        self.assertEqual(loose.begin_loose(((),)), ((0, 0, 0, 0), ((0, (), ()),)))
        self.assertEqual(plain.begin_plain(((),) * 12), ((0, 0, 0, 0), ((0, ()),) * 12))

    def test_states_and_observations(self):
        """[170] to [172], [180] to [182], [490], [491]: as a search by the test itself finds them"""
        for program in programs(1, 120) + programs(2, 20, most_cores=2, most_instructions=5, lines=4, values=99):
            for order in orders.ORDERS:
                states = orders.all_states(program, order)
                self.assertEqual(told(order, "X_states")(program), sorted(states))
                self.assertEqual(told(order, "X_observations")(program), orders.whole_ones(program, states))

    def test_small_programs(self):
        """[172], [174]: one core, no instructions, twelve cores"""
        for order in orders.ORDERS:
            observations = told(order, "X_observations")
            self.assertEqual(observations(((),)), [((0, ()),)])
            self.assertEqual(observations(((),) * 12), [((0, ()),) * 12])
            self.assertEqual(observations(((("store", 3, 99), ("load", 3), ("swap", 3, 1), ("load", 3)),)),
                             [((4, (99, 99, 1)),)])
            self.assertEqual(observations(orders.TWELVE),
                             [((1, (value,)), (1, ())) + ((0, ()),) * 10 for value in (0, 99)])
            self.assertEqual(len(told(order, "X_states")(((),))), 1)

    def test_moves(self):
        """[171], [181], [490]: the moves that are allowed, in their order, and what is behind them"""
        for program in programs(3, 25):
            for order in orders.ORDERS:
                for state in orders.all_states(program, order):
                    moves = told(order, "X_moves")(program, state)
                    self.assertEqual(moves, self.allowed(program, state, order))
                    if order == "plain":
                        self.assertEqual(moves, sorted(moves))
                    behind = [told(order, "X_moved")(program, state, move) for move in moves]
                    self.assertEqual(behind, [self.behind(program, state, move, order) for move in moves])
                    self.refuse_all_others(program, state, moves, order)

    def as_search_has_it(self, state):
        """Return a state of the document as the search of the tests has it."""
        memory, cores = state
        return {"memory": list(memory), "made": [core[0] for core in cores], "told": [list(core[-1]) for core in cores],
                "buffer": [list(core[1]) if len(core) == 3 else [] for core in cores]}

    def allowed(self, program, state, order):
        return orders.moves_of(program, self.as_search_has_it(state), order)

    def behind(self, program, state, move, order):
        changing = self.as_search_has_it(state)
        orders.go(program, changing, move, order)
        return orders.as_tuple(changing, order)

    def refuse_all_others(self, program, state, moves, order):
        """Moves with another word, another number of integers, other cores and lines."""
        tried = [(word, c) for word in ("make", "drain", "row", "") for c in range(-2, len(program) + 2)]
        tried += [(word, c, line) for word in ("make", "drain", "load") for c in range(-1, len(program) + 1)
                  for line in range(-1, 5)]
        for move in tried:
            if move not in moves:
                with self.assertRaises(BadMove) as caught:
                    told(order, "X_moved")(program, state, move)
                self.assertEqual(caught.exception.at, 0)

    def test_moves_in_states_to_which_no_run_leads(self):
        """A state need not come: any values, any that can wait"""
        program = ((("store", 0, 1), ("store", 1, 2), ("load", 0), ("fence",)), ((("load", 1)),))
        big = 10 ** 30
        state = ((big, 7, 0, 0), ((2, ()), (1, (-big,))))
        self.assertEqual(plain.plain_moved(program, changed(state, 1, ((2, ()), (0, ()))), ("make", 1)),
                         ((big, 7, 0, 0), ((2, ()), (1, (7,)))))
        self.assertEqual(plain.plain_moves(program, state), [("make", 0)])
        state = ((big, 7, 0, 0), ((3, ((1, 2),), (-5,)), (0, (), ())))
        for order in ("buffered", "loose"):
            line = (1,) if order == "loose" else ()
            self.assertEqual(told(order, "X_moves")(program, state), [("drain", 0) + line, ("make", 1)])
            self.assertEqual(told(order, "X_moved")(program, state, ("drain", 0) + line),
                             ((big, 2, 0, 0), ((3, (), (-5,)), (0, (), ()))))

    def test_plays(self):
        """[171], [182], [490]: runs, and the index of the first move that is not allowed"""
        source = chance(4)
        for program in programs(5, 60):
            for order in orders.ORDERS:
                moves = orders.random_run(source, program, order)
                kept = list(moves)
                self.assertEqual(told(order, "X_play")(program, moves), orders.end_of(program, moves, order))
                self.assertEqual(moves, kept)
                for at in range(len(moves) + 1):
                    for wrong in (("make", len(program)), ("make", -1), ("drain", 0, 0, 0), ("fence", 0)):
                        with self.assertRaises(BadMove) as caught:
                            told(order, "X_play")(program, moves[:at] + [wrong] + moves[at:] + [wrong])
                        self.assertEqual(caught.exception.at, at)

    def test_moves_of_another_order(self):
        """[171], [181], [490]: no drains, with a line, without a line"""
        program = ((("store", 2, 1),),)
        with self.assertRaises(BadMove) as caught:
            plain.plain_play(program, [("make", 0), ("drain", 0)])
        self.assertEqual(caught.exception.at, 1)
        with self.assertRaises(BadMove) as caught:
            buffered.buffered_play(program, [("make", 0), ("drain", 0, 2)])
        self.assertEqual(caught.exception.at, 1)
        with self.assertRaises(BadMove) as caught:
            loose.loose_play(program, [("make", 0), ("drain", 0)])
        self.assertEqual(caught.exception.at, 1)
        self.assertEqual(loose.loose_play(program, [("make", 0), ("drain", 0, 2)]), ((0, 0, 1, 0), ((1, (), ()),)))
        for wrong in (("drain", 0, True), ("drain", False, 1), ("make", False)):
            with self.assertRaises(BadMove):
                loose.loose_play(((("store", 1, 1), ("load", 0)),), [("make", 0), wrong])

    def test_runs(self):
        """Runs to all observations that come, whole or not, and to no others"""
        source = chance(6)
        for program in programs(7, 25):
            for order in orders.ORDERS:
                states = orders.all_states(program, order)
                coming = {orders.seen(state) for state in states}
                for observation in coming:
                    moves = told(order, "X_run")(program, observation)
                    self.assertEqual(orders.seen(orders.end_of(program, moves, order)), observation)
                for observation in list(coming)[:10]:
                    other = self.other_values(source, observation)
                    if other not in coming:
                        with self.assertRaises(NoAnswer):
                            told(order, "X_run")(program, other)

    def other_values(self, source, observation):
        """Return an observation in which values are others."""
        return tuple((made, tuple(source.choice((value, 0, 1, 2, -1, 10 ** 20)) for value in values))
                     for made, values in observation)

    def test_no_program(self):
        """NotProgram ahead of all other errors"""
        for order in orders.ORDERS:
            for program in NO_PROGRAMS:
                for name in ("begin_X", "X_states", "X_observations"):
                    with self.assertRaises(NotProgram):
                        told(order, name)(program)
                for name in ("is_X_state", "X_moves", "X_run"):
                    with self.assertRaises(NotProgram):
                        told(order, name)(program, ())
                with self.assertRaises(NotProgram):
                    told(order, "X_moved")(program, (), ("jump", 0))
                with self.assertRaises(NotProgram):
                    told(order, "X_play")(program, [("jump", 0)])
        for program in NO_PROGRAMS:
            for function in (plain.is_observation, plain.check_observation):
                with self.assertRaises(NotProgram):
                    function(program, ())

    def test_order_of_errors(self):
        """NotState ahead of BadMove, NotObservation ahead of TooLarge, TooLarge ahead of NoAnswer"""
        for order in orders.ORDERS:
            with self.assertRaises(NotState):
                told(order, "X_moves")(orders.STORES, ((0, 0, 0), ()))
            with self.assertRaises(NotState):
                told(order, "X_moved")(orders.STORES, ((0, 0, 0), ()), ("jump", 7))
            large = orders.with_far_more_states()
            with self.assertRaises(NotObservation):
                told(order, "X_run")(large, ((0, ()),) * 11)
            with self.assertRaises(TooLarge):
                told(order, "X_run")(large, ((0, ()),) * 12)
            more = orders.with_more_states(order)
            impossible = ((1, (5,)),) + ((0, ()),) * (len(more) - 1)
            with self.assertRaises(TooLarge):
                told(order, "X_run")(more, impossible)
            with self.assertRaises(NoAnswer):
                told(order, "X_run")(more[:-1], impossible[:-1])

    def test_too_large(self):
        """Exactly where more than 20000 states can come"""
        for order in orders.ORDERS:
            most = orders.with_most_states()
            self.assertEqual(len(told(order, "X_states")(most)), 20000)
            self.assertEqual(len(told(order, "X_observations")(most)), 1)
            end = tuple((len(core), ()) for core in most)
            self.assertEqual(len(told(order, "X_run")(most, end)), 21)
            more = orders.with_more_states(order)
            self.assertEqual(len(told(order, "X_states")(more[:2])), 59)
            self.assertEqual(len(told(order, "X_states")(more[2:4])), 113)
            for name in ("X_states", "X_observations"):
                with self.assertRaises(TooLarge):
                    told(order, name)(more)
                with self.assertRaises(TooLarge):
                    told(order, name)(orders.with_far_more_states())

    def test_lists_are_new(self):
        """[0]"""
        for order in orders.ORDERS:
            for name in ("X_states", "X_observations"):
                first = told(order, name)(orders.STORES)
                kept = list(first)
                first.clear()
                self.assertEqual(told(order, name)(orders.STORES), kept)
            begin = told(order, "begin_X")(orders.STORES)
            told(order, "X_moves")(orders.STORES, begin).clear()
            self.assertEqual(told(order, "X_moves")(orders.STORES, begin), [("make", 0), ("make", 1)])
            told(order, "X_run")(orders.STORES, ((1, ()), (0, ()))).clear()
            self.assertEqual(told(order, "X_run")(orders.STORES, ((1, ()), (0, ()))), [("make", 0)])


class ObservationTests(unittest.TestCase):
    """[172]"""

    PROGRAM = ((("load", 0), ("store", 1, 5), ("swap", 1, 3)), (("fence",),))

    def test_right_ones(self):
        for observation in (((0, ()), (0, ())), ((1, (7,)), (1, ())), ((2, (-7,)), (0, ())), ((3, (0, 10 ** 30)), (1, ()))):
            self.assertIs(plain.is_observation(self.PROGRAM, observation), True)
            self.assertIsNone(plain.check_observation(self.PROGRAM, observation))

    def test_wrong_ones(self):
        wrong = [(), ((0, ()),), ((0, ()),) * 3, ((0, ()), ()), ((4, (0, 0)), (0, ())), ((-1, ()), (0, ())), ((0, ()), (-1, ())),
                 ((1, ()), (0, ())), ((1, (0, 0)), (0, ())), ((3, (0,)), (0, ())), ((0, (0,)), (0, ())),
                 ((0, ()), (2, ())), ((0, ()), (1, (1,))), ((0, (), ()), (0, (), ())), ((True, (0,)), (0, ())),
                 ((1, (False,)), (0, ())), ((1, 0), (0, ())), 0, ((1, ("0",)), (0, ()))]
        for observation in wrong:
            self.assertIs(plain.is_observation(self.PROGRAM, observation), False)
            with self.assertRaises(NotObservation):
                plain.check_observation(self.PROGRAM, observation)
            for order in orders.ORDERS:
                with self.assertRaises(NotObservation):
                    told(order, "X_run")(self.PROGRAM, observation)


class StateTests(unittest.TestCase):
    """Which tuples are states"""

    PROGRAM = (
        (("store", 0, 1), ("swap", 0, 5), ("store", 0, 2), ("store", 1, 3), ("load", 2), ("store", 0, 2), ("store", 0, 4)),
        (("load", 0), ("store", 3, 9), ("fence",)),
    )

    def test_plain_states(self):
        right = [((0, 0, 0, 0), ((0, ()), (0, ()))), ((10 ** 30, 5, 100, 0), ((2, (-1,)), (3, (10 ** 20,))))]
        wrong = [((0, 0, 0), ((0, ()), (0, ()))), ((0, 0, 0, -1), ((0, ()), (0, ()))), ((0,) * 5, ((0, ()), (0, ()))),
                 ((0, 0, 0, 0), ((0, ()),)), ((0, 0, 0, 0), ((1, (1,)), (0, ()))), ((0, 0, 0, 0),), (), 3,
                 ((0, 0, 0, 0), ((0, (), ()), (0, (), ()))), ((0, 0, 0, True), ((0, ()), (0, ()))),
                 ((0, 0, 0, 0), ((0, ()), (0, ())), ())]
        for state in right:
            self.assertIs(plain.is_plain_state(self.PROGRAM, state), True)
        for state in wrong:
            self.assertIs(plain.is_plain_state(self.PROGRAM, state), False)
            with self.assertRaises(NotState):
                plain.plain_moves(self.PROGRAM, state)
            with self.assertRaises(NotState):
                plain.plain_moved(self.PROGRAM, state, ("make", 0))

    def test_forms_with_buffers(self):
        """All that the two orders ask alike"""
        right = [((0, 0, 0, 0), ((0, (), ()), (0, (), ()))), ((10 ** 30, 5, 100, 0), ((1, (), ()), (3, (), (-9,))))]
        wrong = [((0, 0, 0), ((0, (), ()), (0, (), ()))), ((0, 0, -1, 0), ((0, (), ()), (0, (), ()))),
                 ((0, 0, 0, 0), ((0, ()), (0, ()))), ((0, 0, 0, 0), ((0, (), ()),)), ((0, 0, 0, 0), 5), (), 3,
                 ((0, 0, 0, 0), ((1, (), (1,)), (0, (), ()))), ((0, 0, 0, 0), ((1, ((0, 2),), ()), (0, (), ()))),
                 ((0, 0, 0, 0), ((0, ((0, 1),), ()), (0, (), ()))), ((0, 0, 0, 0), ((1, ((True, 1),), ()), (0, (), ()))),
                 ((0, 0, 0, 0), ((1, ((False, 1),), ()), (0, (), ()))), ((0, 0, 0, 0), ((1, (0, 1), ()), (0, (), ()))),
                 ((0, 0, 0, 0), ((1, ((0, True),), ()), (0, (), ()))),
                 ((0, 0, 0, 0), ((1, 7, ()), (0, (), ()))), ((0, 0, 0, 0), ((1, ((0, 1, 2),), ()), (0, (), ()))),
                 ((0, 0, 0, 0), ((1, ((9, 1),), ()), (0, (), ()))), ((0, 0, 0, 0), ((1, ((-1, 1),), ()), (0, (), ()))),
                 ((0, 0, 0, 0), ((0, (), ()), (3, ((3, 9),), (0,))))]
        for order in ("buffered", "loose"):
            for state in right:
                self.assertIs(told(order, "is_X_state")(self.PROGRAM, state), True, (order, state))
            for state in wrong:
                self.assertIs(told(order, "is_X_state")(self.PROGRAM, state), False, (order, state))
                with self.assertRaises(NotState):
                    told(order, "X_moves")(self.PROGRAM, state)
                with self.assertRaises(NotState):
                    told(order, "X_moved")(self.PROGRAM, state, ("make", 0))

    def test_all_that_can_wait(self):
        """[185], [491]: all tuples of up to four pairs, and those that the points tell"""
        stores = [(0, 2), (1, 3), (0, 2), (0, 4)]
        pairs = [(0, 1), (0, 2), (1, 3), (0, 4)]
        suffixes = {tuple(stores[at:]) for at in range(5)}
        by_line = set()
        for zero in range(4):
            for one in range(2):
                numbers = [0, 2, 3][3 - zero:] + [1] * one
                by_line.add(tuple(stores[at] for at in sorted(numbers)))
        self.assertEqual(len(by_line), 8)
        for size in range(5):
            for waiting in itertools.product(pairs, repeat=size):
                for lines in ((0, 1, 2, 3), (2, 3, 0, 1)):
                    program = with_lines(self.PROGRAM, lines)
                    told_waiting = tuple((lines[line], value) for line, value in waiting)
                    state = ((0, 0, 0, 0), ((7, told_waiting, (0, 0)), (0, (), ())))
                    self.assertIs(buffered.is_buffered_state(program, state), waiting in suffixes)
                    self.assertIs(loose.is_loose_state(program, state), waiting in by_line)

    def test_states_that_come_are_states(self):
        for program in programs(8, 30):
            for order in orders.ORDERS:
                for state in orders.all_states(program, order):
                    self.assertIs(told(order, "is_X_state")(program, state), True)


class BetweenOrders(unittest.TestCase):
    """What the points tell about programs that are alike, and about the orders beside each other"""

    def whole(self, order, program):
        return told(order, "X_observations")(program)

    def all_of(self, order, program):
        return {orders.seen(state) for state in told(order, "X_states")(program)}

    def test_examples(self):
        """[175], [186], [493]"""
        plain_ones = [((2, (0,)), (2, (1,))), ((2, (1,)), (2, (0,))), ((2, (1,)), (2, (1,)))]
        self.assertEqual(self.whole("plain", orders.STORES), plain_ones)
        self.assertEqual(self.whole("buffered", orders.STORES), [orders.BOTH_ZERO] + plain_ones)
        self.assertIn(orders.BOTH_ZERO, self.whole("loose", orders.STORES))
        one, other = [(core[0], ("fence",), core[1]) for core in orders.STORES]
        self.assertEqual(len(self.whole("buffered", (one, other))), 3)
        self.assertEqual(len(self.whole("buffered", (one, orders.STORES[1]))), 4)
        self.assertEqual(len(self.whole("buffered", (orders.STORES[0], other))), 4)
        seen = ((2, ()), (2, (1, 0)))
        self.assertIn(seen, self.whole("loose", orders.MESSAGE))
        self.assertNotIn(seen, self.whole("buffered", orders.MESSAGE))
        with self.assertRaises(NoAnswer):
            buffered.buffered_run(orders.MESSAGE, seen)
        fenced = ((orders.MESSAGE[0][0], ("fence",), orders.MESSAGE[0][1]), orders.MESSAGE[1])
        self.assertNotIn(((3, ()), (2, (1, 0))), self.whole("loose", fenced))

    def test_fewer_instructions(self):
        """[173], [184], [492]: a beginning has those observations in which nothing else is made"""
        source = chance(9)
        for program in programs(10, 40):
            counts = tuple(source.randint(0, len(core)) for core in program)
            for order in orders.ORDERS:
                fewer = {seen for seen in self.all_of(order, program) if all(c[0] <= n for c, n in zip(seen, counts))}
                self.assertEqual(self.all_of(order, beginning(program, counts)), fewer)

    def test_told_otherwise(self):
        """[174]: cores in another order, other lines, other values, a core without instructions"""
        source = chance(11)
        for program in programs(12, 40):
            cores = tuple(source.sample(range(len(program)), len(program)))
            lines = tuple(source.sample(range(4), 4))
            values = [0] + source.sample(range(1, 100), 99)
            revalued = tuple(tuple(i[:2] + tuple(values[v] for v in i[2:]) for i in core) for core in program)
            for order in orders.ORDERS:
                whole = self.whole(order, program)
                self.assertEqual(self.whole(order, with_cores(program, cores)),
                                 sorted(tuple(seen[c] for c in cores) for seen in whole))
                self.assertEqual(self.whole(order, with_lines(program, lines)), whole)
                self.assertEqual(self.whole(order, revalued), sorted(
                    tuple((made, tuple(values[v] for v in values_told)) for made, values_told in seen) for seen in whole))
                self.assertEqual(self.whole(order, program + ((),)), [seen + ((0, ()),) for seen in whole])

    def results(self, order, program):
        return {tuple(values for _, values in seen) for seen in self.whole(order, program)}

    def test_fences(self):
        """[173], [184], [492]: nothing but numbers in the plain order, nothing won in the others"""
        source = chance(13)
        for program in programs(14, 60):
            c = source.randrange(len(program))
            at = source.randint(0, len(program[c]))
            fenced = changed(program, c, program[c][:at] + (("fence",),) + program[c][at:])
            self.assertEqual(self.results("plain", fenced), self.results("plain", program))
            for order in ("buffered", "loose"):
                self.assertLessEqual(self.results(order, fenced), self.results(order, program))

    def test_orders_beside_each_other(self):
        """[183], [492]: plain ones are buffered, buffered ones are loose"""
        for program in programs(15, 60):
            self.assertLessEqual(self.all_of("plain", program), self.all_of("buffered", program))
            self.assertLessEqual(self.all_of("buffered", program), self.all_of("loose", program))

    def test_where_orders_are_the_same(self):
        """[183], [492]: fences behind all stores, stores of one line"""
        for program in programs(16, 60, most_instructions=4):
            fenced = tuple(tuple(part for i in core for part in ((i, FENCE) if i[0] == "store" else (i,)))
                           for core in program)
            for order in ("buffered", "loose"):
                self.assertEqual(self.whole(order, fenced), self.whole("plain", fenced))
            one_line = tuple(tuple(i[:1] + (0,) + i[2:] if i[0] == "store" else i for i in core) for core in program)
            self.assertEqual(self.whole("loose", one_line), self.whole("buffered", one_line))

    def test_draining_changes_nothing(self):
        """[182], [185]: what waits may be drained at the end, and a run has at most two moves for each instruction"""
        source = chance(17)
        for program in programs(18, 60):
            for order in ("buffered", "loose"):
                moves = orders.random_run(source, program, order, most=source.randint(0, 12))
                memory, cores = told(order, "X_play")(program, moves)
                more = list(moves)
                for c, core in enumerate(cores):
                    more += [("drain", c) + (() if order == "buffered" else (line,)) for line, _ in core[1]]
                state = told(order, "X_play")(program, more)
                self.assertEqual(orders.seen(state), orders.seen((memory, cores)))
                self.assertTrue(all(core[1] == () for core in state[1]))
                self.assertLessEqual(len(more), 2 * sum(map(len, program)))


FENCE = ("fence",)


if __name__ == "__main__":
    unittest.main()
