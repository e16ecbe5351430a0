"""Relations that explain, [200] to [205], and [208]"""

import itertools
import unittest

import orders
import papers_of_orders as told
from coheir.errors import BadNumber, NoAnswer, NotObservation, NotProgram
from coheir.relations import (
    ahead_by_lines, ahead_whole, does_fit, events_of, explains, kept_pairs, round_in,
)
from support import chance, changed

PAPER = ((((0, 1), (-1, -1)), ((1, 1), (-1, -1))), (((0, 0),), ((1, 0),), (), ()))
NO_ORDERS = ("", "Plain", "plain ", "loosely", "buffer")

# Each line has a swap or two; the observation has events of all kinds, also two writers of one value.
FULL = (
    (("store", 0, 1), ("swap", 0, 2), ("load", 0), ("fence",), ("store", 1, 3)),
    (("load", 0), ("swap", 0, 1), ("store", 1, 3), ("load", 1)),
)
FULL_SEEN = ((5, (1, 2)), (4, (2, 2, 3)))
FULL_PAPER = (
    (((0, 1), (0, 0)), ((0, 2), (0, 1)), ((1, 0), (0, 1)), ((1, 1), (0, 1)), ((1, 3), (1, 2))),
    (((0, 0), (0, 1), (1, 1)), ((0, 4), (1, 2)), (), ()),
)


def some_cases(seed, count, **sizes):
    """Return programs with observations, some of which come in an order."""
    source = chance(seed)
    found = []
    for _ in range(count):
        program = orders.random_program(source, **sizes)
        order = source.choice(orders.ORDERS)
        moves = orders.random_run(source, program, order, most=source.randint(0, 30))
        seen = orders.seen(orders.end_of(program, moves, order))
        if source.random() < 0.3:
            seen = tuple((made, tuple(source.choice((v, 0, 1, 2)) for v in values)) for made, values in seen)
        found.append((program, seen))
    return found


class EventTests(unittest.TestCase):
    def test_events(self):
        """[200]"""
        self.assertEqual(events_of(orders.STORES, orders.BOTH_ZERO), [(0, 0), (0, 1), (1, 0), (1, 1)])
        self.assertEqual(events_of(orders.STORES, ((0, ()), (1, ()))), [(1, 0)])
        self.assertEqual(events_of(((),), ((0, ()),)), [])
        self.assertEqual(events_of(FULL, ((4, (-5, 10 ** 30)), (0, ()))), [(0, i) for i in range(4)])
        with_ten = ((("fence",),) * 11,) + ((),) * 11
        self.assertEqual(events_of(with_ten, ((11, ()),) + ((0, ()),) * 11), [(0, i) for i in range(11)])

    def test_kept_pairs(self):
        """[204]: all pairs of words, with and without something between them"""
        words = [("load", 0), ("load", 1), ("store", 0, 1), ("store", 1, 2), ("swap", 0, 3), ("swap", 1, 4), ("fence",)]
        for early, late in itertools.product(words, repeat=2):
            for between in [()] + [(word,) for word in words]:
                core = (early,) + between + (late,)
                seen = ((len(core), (0,) * sum(i[0] in ("load", "swap") for i in core)),)
                pairs = [(a, b) for a, b in itertools.combinations(told.events(seen), 2)]
                self.assertEqual(kept_pairs((core,), seen, "plain"), pairs)
                for order in ("buffered", "loose"):
                    wanted = [pair for pair in pairs if told.kept((core,), *pair, order)]
                    self.assertEqual(kept_pairs((core,), seen, order), wanted)

    def test_kept_pairs_of_stores(self):
        """[204], written out"""
        core = (("store", 0, 1), ("load", 0), ("load", 1), ("store", 1, 1), ("store", 0, 2), ("fence",), ("load", 0))
        seen = ((7, (0, 0, 0)), (0, ()))
        all_pairs = list(itertools.combinations([(0, i) for i in range(7)], 2))
        out = {"plain": [], "buffered": [(0, 1), (0, 2)], "loose": [(0, 1), (0, 2), (0, 3), (3, 4)]}
        for order, numbers in out.items():
            wanted = [pair for pair in all_pairs if (pair[0][1], pair[1][1]) not in numbers]
            self.assertEqual(kept_pairs((core, ()), seen, order), wanted)
        self.assertEqual(kept_pairs((core, core), ((1, ()), (1, ())), "plain"), [])


class FitTests(unittest.TestCase):
    """[201], [202]"""

    def fit(self, paper):
        return does_fit(FULL, FULL_SEEN, paper)

    def test_right_papers(self):
        self.assertIs(does_fit(orders.STORES, orders.BOTH_ZERO, PAPER), True)
        self.assertIs(self.fit(FULL_PAPER), True)
        self.assertIs(does_fit(((),), ((0, ()),), ((), ((), (), (), ()))), True)
        # Other orders of a line, and other sources with the same value, fit, too.
        self.assertIs(self.fit(changed(FULL_PAPER, 1, (FULL_PAPER[1][0], ((1, 2), (0, 4)), (), ()))), True)
        self.assertIs(self.fit(self.with_source(4, ((1, 3), (0, 4)))), True)

    def with_source(self, at, pair):
        return changed(FULL_PAPER, 0, changed(FULL_PAPER[0], at, pair))

    def with_line(self, at, row):
        return changed(FULL_PAPER, 1, changed(FULL_PAPER[1], at, row))

    def test_what_is_no_paper(self):
        sources, lines = FULL_PAPER
        wrong = [(), (sources,), (sources, lines, ()), (sources, lines[:3]), (sources, lines + ((),)), (sources, ()),
                 (lines, sources), (sources[1:], lines), (sources[::-1], lines), (sources + sources[-1:], lines),
                 (sources + (((0, 0), (-1, -1)),), lines), (sources[:4] + (((1, 2), (1, 2)),) + sources[4:], lines),
                 (sources, 5), (5, lines), (list(sources), lines), (sources, list(lines))]
        for paper in wrong:
            self.assertIs(self.fit(paper), False, paper)

    def test_what_is_no_order_of_lines(self):
        for row in ((), ((0, 0), (0, 1)), ((0, 0), (0, 1), (1, 1), (1, 1)), ((0, 0), (0, 1), (1, 1), (0, 2)),
                    ((0, 0), (0, 1), (1, 2)), ((0, 0), (0, 1), (1, 1), (-1, -1)), ((0, 0), (0, 1), (1,)), 7,
                    ((0, 0), (0, 1), (1, True)), ((False, 0), (0, 1), (1, 1))):
            self.assertIs(self.fit(self.with_line(0, row)), False, row)
        self.assertIs(self.fit(self.with_line(2, ((0, 0),))), False)
        self.assertIs(self.fit(self.with_line(3, ((0, 3),))), False)

    def test_wrong_sources(self):
        """Another value, another line, none that writes, none that is made, itself, the beginning of what is not 0"""
        for source in ((0, 0), (1, 1), (0, 4), (1, 0), (0, 2), (0, 3), (-1, -1), (2, 0), (0, 9), (-1, 0), (0, -1),
                       (10 ** 20, 0), (1, 2)):
            self.assertIs(self.fit(self.with_source(2, ((1, 0), source))), False, source)
        for source in ((True, 1), (0, True), (0, 1, 0), (0,), 0):
            self.assertIs(self.fit(self.with_source(2, ((1, 0), source))), False, source)
        self.assertIs(self.fit(self.with_source(0, ((0, 1),))), False)
        self.assertIs(self.fit(self.with_source(0, ((False, 1), (0, 0)))), False)
        self.assertIs(self.fit(self.with_source(0, ((0, 1), (False, 0)))), False)
        not_made = ((1, ()), (4, (2, 2, 3)))
        paper = ((((1, 0), (0, 1)), ((1, 1), (0, 1)), ((1, 3), (1, 2))), (((0, 0), (1, 1)), ((1, 2),), (), ()))
        self.assertIs(does_fit(FULL, not_made, paper), False)

    def test_the_beginning_is_no_event_with_a_value(self):
        """`(-1, -1)` where the value is 0, and only there; a source where it is 0 is none"""
        program = ((("store", 0, 1),), (("load", 0),))
        lines = (((0, 0),), (), (), ())
        for value, source, fits in ((0, (-1, -1), True), (0, (0, 0), False), (1, (0, 0), True), (1, (-1, -1), False),
                                    (-1, (-1, -1), False), (10 ** 20, (0, 0), False)):
            self.assertIs(does_fit(program, ((1, ()), (1, (value,))), ((((1, 0), source),), lines)), fits)

    def test_its_own_source(self):
        """A swap that reads its own value"""
        program = ((("swap", 0, 1),),)
        paper = ((((0, 0), (0, 0)),), (((0, 0),), (), (), ()))
        self.assertIs(does_fit(program, ((1, (1,)),), paper), False)
        self.assertIs(does_fit(program, ((1, (0,)),), changed(paper, 0, (((0, 0), (-1, -1)),))), True)

    def test_swaps_not_behind_their_source(self):
        program = ((("swap", 0, 1),), (("store", 0, 2),), (("store", 0, 3),))
        seen = ((1, (2,)), (1, ()), (1, ()))
        source = (((0, 0), (1, 0)),)
        for row in itertools.permutations([(0, 0), (1, 0), (2, 0)]):
            fits = row.index((0, 0)) == row.index((1, 0)) + 1
            self.assertIs(does_fit(program, seen, (source, (row, (), (), ()))), fits)
            first = row[0] == (0, 0)
            self.assertIs(does_fit(program, changed(seen, 0, (1, (0,))), ((((0, 0), (-1, -1)),), (row, (), (), ()))), first)

    def test_all_papers(self):
        """All papers of small programs"""
        for program, seen in some_cases(1, 60, most_instructions=2, values=1):
            for paper in itertools.islice(told.all_papers(program, seen), 300):
                self.assertIs(does_fit(program, seen, paper), told.fits(program, seen, paper))


class AheadTests(unittest.TestCase):
    def test_written_out(self):
        """[203], [205]"""
        program = ((("store", 0, 1), ("load", 0), ("fence",)), (("load", 0), ("store", 0, 2)))
        seen = ((3, (1,)), (2, (0,)))
        paper = ((((0, 1), (0, 0)), ((1, 0), (-1, -1))), (((0, 0), (1, 1)), (), (), ()))
        s, d, f, a, t = (0, 0), (0, 1), (0, 2), (1, 0), (1, 1)
        self.assertEqual(ahead_by_lines(program, seen, paper), sorted([(s, d), (s, t), (d, t), (a, s), (a, t)]))
        shared = [(s, t), (d, t), (a, s), (a, t), (s, f), (d, f)]
        self.assertEqual(ahead_whole(program, seen, paper, "plain"), sorted(shared + [(s, d)]))
        for order in ("buffered", "loose"):
            self.assertEqual(ahead_whole(program, seen, paper, order), sorted(shared))

    def test_a_later_source_of_the_own_core(self):
        """[205]: by `plain` it is ahead, by the other orders the whole relation leaves it out"""
        program = ((("load", 0), ("store", 0, 1)),)
        paper = ((((0, 0), (0, 1)),), (((0, 1),), (), (), ()))
        both = [((0, 0), (0, 1)), ((0, 1), (0, 0))]
        self.assertEqual(ahead_by_lines(program, ((2, (1,)),), paper), both)
        self.assertEqual(ahead_whole(program, ((2, (1,)),), paper, "plain"), both)
        for order in ("buffered", "loose"):
            self.assertEqual(ahead_whole(program, ((2, (1,)),), paper, order), both[:1])

    def test_swaps_read_no_pairs(self):
        """[203]: what reads and is no swap"""
        program = ((("swap", 0, 1),), (("store", 0, 2),))
        paper = ((((0, 0), (-1, -1)),), (((0, 0), (1, 0)), (), (), ()))
        self.assertEqual(ahead_by_lines(program, ((1, (0,)), (1, ())), paper), [((0, 0), (1, 0))])

    def test_chance(self):
        count = 0
        for program, seen in some_cases(2, 150, most_instructions=3, values=1):
            for paper in itertools.islice(told.all_papers(program, seen), 100):
                fitting = told.fits(program, seen, paper)
                count += fitting
                for order in orders.ORDERS:
                    if fitting:
                        by_lines, whole = told.relations(program, seen, paper, order)
                        self.assertEqual(ahead_by_lines(program, seen, paper), sorted(by_lines))
                        self.assertEqual(ahead_whole(program, seen, paper, order), sorted(whole))
                    else:
                        with self.assertRaises(NoAnswer):
                            ahead_by_lines(program, seen, paper)
                        with self.assertRaises(NoAnswer):
                            ahead_whole(program, seen, paper, order)
        self.assertGreater(count, 100)


class RoundTests(unittest.TestCase):
    def check(self, pairs):
        """Look whether the round is one, and as short as the shortest way back to some event."""
        kept = list(pairs)
        found = round_in(pairs)
        self.assertEqual(pairs, kept)
        lengths = []
        for start in {pair[0] for pair in pairs}:
            reached, at = {start}, 0
            layer = {start}
            while layer and at < 50:
                at += 1
                layer = {b for a, b in pairs if a in layer}
                if start in layer:
                    lengths.append(at)
                    break
                layer -= reached
                reached |= layer
        if not lengths:
            self.assertIsNone(found)
        else:
            self.assertEqual(len(found), min(lengths))
            self.assertEqual(len(set(found)), len(found))
            for one, other in zip(found, found[1:] + found[:1]):
                self.assertIn((one, other), pairs)

    def test_known_ones(self):
        a, b, c, d = (0, 0), (0, 1), (1, 0), (-7, 10 ** 30)
        self.assertIsNone(round_in([]))
        self.assertEqual(round_in([(a, a)]), [a])
        self.assertIsNone(round_in([(a, b), (b, c), (a, c), (c, d), (a, d)]))
        self.assertEqual(sorted(round_in([(a, b), (b, a)])), [a, b])
        self.assertEqual(round_in([(a, b), (b, c), (c, d), (d, a), (c, b), (d, d)]), [d])
        self.assertEqual(sorted(round_in([(a, b), (b, c), (c, d), (d, a), (c, b), (c, b)])), [b, c])
        self.assertEqual(sorted(round_in([(c, d), (d, b), (a, c), (b, a), (a, b), (b, c)])), [a, b])

    def test_chance(self):
        source = chance(3)
        for _ in range(500):
            size = source.randint(1, 9)
            pairs = [((0, source.randrange(size)), (0, source.randrange(size))) for _ in range(source.randint(0, 14))]
            self.check([pair for pair in pairs if pair[0] != pair[1] or source.random() < 0.1])

    def test_long_and_large_ones(self):
        circle = [((0, at), (0, (at + 1) % 40)) for at in range(40)]
        self.check(circle)
        self.check(circle[1:])
        self.check(circle + [((0, 5), (0, 2)), ((0, 30), (0, 21))])
        row = [(c, i) for c in range(12) for i in range(24)]
        self.assertIsNone(round_in(list(itertools.combinations(row, 2))))
        self.assertEqual(len(round_in(list(itertools.combinations(row, 2)) + [(row[9], row[3])])), 2)

    def test_new_list(self):
        pairs = [((0, 0), (0, 1)), ((0, 1), (0, 0))]
        round_in(pairs).clear()
        self.assertEqual(len(round_in(pairs)), 2)


class ExplainTests(unittest.TestCase):
    def test_example(self):
        """[208]"""
        program, seen = orders.STORES, orders.BOTH_ZERO
        fitting = [paper for paper in told.all_papers(program, seen) if does_fit(program, seen, paper)]
        self.assertEqual(fitting, [PAPER])
        self.assertIs(explains(program, seen, PAPER, "plain"), False)
        self.assertIs(explains(program, seen, PAPER, "buffered"), True)
        self.assertIs(explains(program, seen, PAPER, "loose"), True)
        found = round_in(ahead_whole(program, seen, PAPER, "plain"))
        rounds = [[(0, 0), (0, 1), (1, 0), (1, 1)][at:] + [(0, 0), (0, 1), (1, 0), (1, 1)][:at] for at in range(4)]
        self.assertIn(found, rounds)
        self.assertNotIn(((0, 0), (0, 1)), ahead_whole(program, seen, PAPER, "buffered"))
        self.assertIsNone(round_in(ahead_whole(program, seen, PAPER, "loose")))

    def test_by_lines_alone(self):
        """[207]: a load that passes a store of its own core on its line"""
        program = ((("store", 0, 1), ("load", 0)),)
        paper = ((((0, 1), (-1, -1)),), (((0, 0),), (), (), ()))
        for order in orders.ORDERS:
            self.assertIs(does_fit(program, ((2, (0,)),), paper), True)
            self.assertIs(explains(program, ((2, (0,)),), paper, order), False)
        self.assertIsNone(round_in(ahead_whole(program, ((2, (0,)),), paper, "buffered")))
        self.assertIsNotNone(round_in(ahead_by_lines(program, ((2, (0,)),), paper)))

    def test_all_papers(self):
        """[205], [206]: what explains, and that something does exactly if the observation comes"""
        for program, _ in some_cases(4, 40, most_cores=2, most_instructions=2, values=1):
            for seen in told.all_observations(program, (0, 1)):
                papers = list(told.all_papers(program, seen))
                for order in orders.ORDERS:
                    found = [explains(program, seen, paper, order) for paper in papers]
                    self.assertEqual(found, [told.explains(program, seen, paper, order) for paper in papers])
                    states = orders.all_states(program, order)
                    self.assertEqual(any(found), seen in {orders.seen(state) for state in states})

    def test_what_is_no_paper(self):
        for paper in ((), (PAPER[0],), (PAPER[0], PAPER[1][:3]), (PAPER[0], PAPER[1] + ((),)), (PAPER[0][1:], PAPER[1])):
            for order in orders.ORDERS:
                self.assertIs(explains(orders.STORES, orders.BOTH_ZERO, paper, order), False)
            with self.assertRaises(NoAnswer):
                ahead_by_lines(orders.STORES, orders.BOTH_ZERO, paper)
            with self.assertRaises(NoAnswer):
                ahead_whole(orders.STORES, orders.BOTH_ZERO, paper, "plain")


class ErrorTests(unittest.TestCase):
    CALLS = (
        lambda program, seen, order: events_of(program, seen),
        lambda program, seen, order: kept_pairs(program, seen, order),
        lambda program, seen, order: does_fit(program, seen, ()),
        lambda program, seen, order: ahead_by_lines(program, seen, ()),
        lambda program, seen, order: ahead_whole(program, seen, (), order),
        lambda program, seen, order: explains(program, seen, (), order),
    )

    def test_order_of_errors(self):
        """NotProgram, NotObservation, BadNumber, NoAnswer"""
        for at, call in enumerate(self.CALLS):
            for order in NO_ORDERS:
                with self.assertRaises(NotProgram):
                    call((), (), order)
                with self.assertRaises(NotObservation):
                    call(orders.STORES, ((2, (0,)), (2, ())), order)
                if at in (1, 4, 5):
                    with self.assertRaises(BadNumber):
                        call(orders.STORES, orders.BOTH_ZERO, order)

    def test_lists_are_new(self):
        calls = (lambda: events_of(orders.STORES, orders.BOTH_ZERO),
                 lambda: kept_pairs(orders.STORES, orders.BOTH_ZERO, "plain"),
                 lambda: ahead_by_lines(orders.STORES, orders.BOTH_ZERO, PAPER),
                 lambda: ahead_whole(orders.STORES, orders.BOTH_ZERO, PAPER, "plain"))
        for call in calls:
            kept = list(call())
            call().clear()
            self.assertEqual(call(), kept)
            self.assertEqual(kept, sorted(set(kept)))


if __name__ == "__main__":
    unittest.main()
