import itertools
import unittest

from coheir.backs import is_below, least_of, met_kinds, met_stands, steps_back, steps_back_by
from coheir.errors import BadMove, BadNumber, NotHeap, NotStand, NotTable
from coheir.ghosts import heap_moves, start_heap
from coheir.samples import forgetful, mesi, mosi, msi
from support import ALONE, NO_ROWS, SMALL, chance, random_table
from test_ghosts import NO_HEAPS, random_run

WRONG = ((1,), 1, ())


def heaps_over(stands, kinds, most):
    """Return all heaps with these stands and kinds, and with at most so many caches."""
    found = []
    for n in range(most + 1):
        for picked in itertools.combinations_with_replacement(sorted(kinds), n):
            crowd = tuple((s, m, picked.count((s, m))) for s, m in sorted(set(picked)))
            found.extend((stand, crowd) for stand in stands)
    return found


def count(heap):
    return sum(number for _, _, number in heap[1])


def below(one, other):
    many = {(s, m): number for s, m, number in other[1]}
    return one[0] == other[0] and all(number <= many.get((s, m), 0) for s, m, number in one[1])


def least(heaps):
    return sorted(h for h in set(heaps) if not any(g != h and below(g, h) for g in heaps))


def all_kinds(table):
    return [(s, m) for s in range(len(table[0])) for m in (0, 1)]


def all_stands(table):
    return [(h, m) for h in range(table[1]) for m in (0, 1)]


def all_moves(table):
    """Return all moves of heaps, whatever the stand is."""
    found = []
    for r, row in enumerate(table[2]):
        found.extend(("row", r, x, y) for x in (0, 1) for y in ((-1,) if row[2] == -1 else (0, 1)))
    return found + [("store", s, x) for s, right in enumerate(table[0]) if right == 2 for x in (0, 1)]


def met_by_the_words(table):
    """Return the met stands and kinds as [80] tells them, row by row."""
    stands, kinds = {(0, 1)}, {(0, 0)}
    while True:
        known = (set(stands), set(kinds))
        for home, fresh in known[0]:
            for h, own, other, h2, own2, other2, others, source, back in table[2]:
                partners = [(-1, 0)] if other == -1 else [kind for kind in known[1] if kind[0] == other]
                for x in [m for s, m in known[1] if s == own and h == home]:
                    for _, y in partners:
                        stands.add((h2, {"keep": fresh, "own": x, "other": y}[back]))
                        kinds.add((own2, {"keep": x, "home": fresh, "other": y}[source]))
                        if other != -1:
                            kinds.add((other2, y))
                        kinds.update((others[s], m) for s, m in known[1])
            for state, _ in known[1]:
                if table[0][state] == 2:
                    stands.add((home, 0))
                    kinds.add((state, 1))
                    kinds.update((s, 0) for s, _ in known[1])
        if known == (stands, kinds):
            return sorted(stands), sorted(kinds)


class MetTests(unittest.TestCase):
    """[80]"""

    def test_example(self):
        self.assertEqual(met_stands(msi()), [(0, 0), (0, 1), (1, 0), (1, 1)])
        self.assertEqual(met_kinds(msi()), [(0, 0), (0, 1), (1, 0), (1, 1), (2, 0), (2, 1)])

    def test_nothing_more(self):
        for table in (NO_ROWS, ALONE):
            self.assertEqual(met_stands(table), [(0, 1)])
            self.assertEqual(met_kinds(table), [(0, 0)])

    def test_by_the_words(self):
        source = chance(21)
        for table in [random_table(source) for _ in range(150)] + [msi(), mesi(), mosi(), SMALL]:
            self.assertEqual((met_stands(table), met_kinds(table)), met_by_the_words(table))

    def test_partner_must_be_met(self):
        table = ((0, 1, 1), 1, ((0, 0, 1, 0, 2, 1, (0, 1, 2), "home", "keep"),))
        self.assertEqual(met_kinds(table), [(0, 0)])

    def test_all_that_comes_is_met(self):
        source = chance(22)
        for _ in range(60):
            table = random_table(source)
            stands, kinds = met_stands(table), met_kinds(table)
            for stand, crowd in random_run(source, table, start_heap(table, 4), 20)[1]:
                self.assertIn(stand, stands)
                self.assertTrue(all((s, m) in kinds for s, m, _ in crowd))

    def test_lists_are_new(self):
        for function in (met_stands, met_kinds):
            function(msi()).clear()
            self.assertTrue(function(msi()))

    def test_no_table(self):
        for function in (met_stands, met_kinds):
            with self.assertRaises(NotTable):
                function(WRONG)


class BelowTests(unittest.TestCase):
    """[57], [81]"""

    def test_below(self):
        heap = ((1, 0), ((0, 0, 2), (2, 1, 1)))
        for crowd in ((), ((0, 0, 1),), ((0, 0, 2),), ((2, 1, 1),), ((0, 0, 1), (2, 1, 1)), heap[1]):
            self.assertIs(is_below(((1, 0), crowd), heap), True)
        for crowd in (((0, 0, 3),), ((0, 1, 1),), ((2, 1, 2),), ((0, 0, 1), (1, 0, 1)), ((0, 0, 3), (2, 1, 1))):
            self.assertIs(is_below(((1, 0), crowd), heap), False)
        for stand in ((0, 0), (1, 1)):
            self.assertIs(is_below((stand, ()), heap), False)

    def test_anything_of_the_form(self):
        big = ((99, -7), ((-3, 8, 10 ** 30), (50, 50, 5)))
        self.assertTrue(is_below(((99, -7), ((-3, 8, 10 ** 30 - 1),)), big))
        self.assertFalse(is_below(((99, -7), ((-3, 8, 10 ** 30 + 1),)), big))
        self.assertEqual(least_of([big, ((99, -7), ((50, 50, 5),))]), [((99, -7), ((50, 50, 5),))])

    def test_least(self):
        self.assertEqual(least_of([]), [])
        one, two, three = ((0, 1), ((0, 0, 1),)), ((0, 1), ((0, 0, 2),)), ((0, 1), ((0, 0, 1), (1, 0, 1)))
        far, nobody = ((0, 0), ((0, 0, 9),)), ((0, 1), ())
        self.assertEqual(least_of([three, two, one, two, far, one]), [far, one])
        self.assertEqual(least_of([two, three, two]), [three, two])
        self.assertEqual(least_of([two, nobody, one]), [nobody])

    def test_least_made_by_chance(self):
        source = chance(23)
        every = heaps_over([(0, 0), (1, 1)], [(0, 0), (0, 1), (1, 0)], 5)
        for _ in range(100):
            heaps = source.choices(every, k=source.randint(0, 12))
            given = list(heaps)
            self.assertEqual(least_of(heaps), least(heaps))
            self.assertEqual(heaps, given)


class StepTests(unittest.TestCase):
    """[82] to [86]"""

    def test_example(self):
        heap = ((1, 0), ((0, 0, 2), (2, 1, 1)))
        expected = [
            ((1, 0), ((0, 0, 1), (0, 1, 1), (2, 1, 1))),
            ((1, 0), ((0, 0, 2), (2, 1, 1))),
            ((1, 0), ((0, 1, 2), (2, 1, 1))),
        ]
        self.assertEqual(steps_back_by(msi(), (1, 0), ("store", 2, 1), heap), expected)
        told = steps_back(msi(), heap)
        self.assertTrue(all(any(below(one, back) for one in told) for back in expected))

    def test_store_from_both_marks(self):
        heap = ((1, 0), ((0, 0, 1),))
        for stand in ((1, 0), (1, 1)):
            self.assertEqual(steps_back_by(msi(), stand, ("store", 2, 0), heap), [
                (stand, ((0, 0, 1), (2, 0, 1))), (stand, ((0, 1, 1), (2, 0, 1))),
            ])

    def test_store_leaves_no_fresh_copy(self):
        for crowd in (((2, 1, 2),), ((1, 1, 1),), ((0, 1, 1), (2, 1, 1))):
            self.assertEqual(steps_back_by(msi(), (1, 0), ("store", 2, 1), ((1, 0), crowd)), [])
        for crowd in ((), ((2, 1, 1),)):
            self.assertEqual(
                steps_back_by(msi(), (1, 0), ("store", 2, 1), ((1, 0), crowd)), [((1, 0), ((2, 1, 1),))],
            )

    def test_no_state_is_mapped_there(self):
        heap = ((1, 1), ((1, 0, 1),))
        self.assertEqual(steps_back_by(msi(), (0, 1), ("row", 2, 0, -1), heap), [])
        self.assertEqual(steps_back_by(msi(), (0, 1), ("row", 2, 0, -1), ((1, 1), ())), [((0, 1), ((0, 0, 1),))])

    def test_two_of_one_kind(self):
        table = ((0, 1), 1, ((0, 0, 0, 0, 1, 1, (0, 1), "keep", "keep"),))
        for crowd in (((1, 0, 2),), ((1, 0, 1),), ()):
            self.assertEqual(
                steps_back_by(table, (0, 1), ("row", 0, 0, 0), ((0, 1), crowd)), [((0, 1), ((0, 0, 2),))],
            )
        self.assertEqual(
            steps_back_by(table, (0, 1), ("row", 0, 0, 0), ((0, 1), ((1, 0, 3),))), [((0, 1), ((0, 0, 2), (1, 0, 1)))],
        )

    def test_any_number(self):
        heap = ((0, 1), ((1, 1, 10 ** 30),))
        self.assertEqual(
            steps_back_by(msi(), (0, 1), ("row", 5, 1, -1), heap), [((0, 1), ((1, 1, 10 ** 30 + 1),))],
        )
        self.assertEqual(
            steps_back_by(msi(), (0, 1), ("row", 0, 0, -1), heap), [((0, 1), ((0, 0, 1), (1, 1, 10 ** 30 - 1)))],
        )

    def test_others_of_any_states(self):
        table = ((0, 0, 1), 1, ((0, 0, -1, 0, 2, -1, (0, 0, 2), "keep", "keep"),))
        self.assertEqual(met_kinds(table), [(0, 0), (2, 0)])
        heap = ((0, 1), ((0, 0, 1), (2, 0, 1)))
        self.assertEqual(steps_back_by(table, (0, 1), ("row", 0, 0, -1), heap), [
            ((0, 1), ((0, 0, 1), (1, 0, 1))), ((0, 1), ((0, 0, 2),)),
        ])
        self.assertEqual(steps_back(table, heap), [((0, 1), ((0, 0, 2),))])

    def test_by_the_words(self):
        source = chance(24)
        asked = 0
        while asked < 150:
            table = random_table(source, 3, 2, 6)
            stand, heap = source.choice(all_stands(table)), source.choice(
                heaps_over(all_stands(table), all_kinds(table), 3))
            for move in source.sample(all_moves(table), min(3, len(all_moves(table)))):
                ahead = heaps_over([stand], all_kinds(table), count(heap) + 2)
                led = [(one, dict(heap_moves(table, one)).get(move)) for one in ahead]
                led = [(one, behind) for one, behind in led if behind is not None]
                if led and led[0][1][0] == heap[0]:
                    expected = least([one for one, behind in led if below(heap, behind)])
                    self.assertEqual(steps_back_by(table, stand, move, heap), expected)
                    asked += 1

    def test_all_by_the_words(self):
        source = chance(25)
        for _ in range(50):
            table = random_table(source, 3, 2, 6)
            stands, kinds = met_stands(table), met_kinds(table)
            heap = source.choice(heaps_over(stands, kinds, 2))
            ahead = heaps_over(stands, kinds, count(heap) + 2)
            expected = [one for one in ahead if any(below(heap, behind) for _, behind in heap_moves(table, one))]
            self.assertEqual(steps_back(table, heap), least(expected))

    def test_errors_of_a_move(self):
        heap, good = ((1, 0), ((0, 0, 2), (2, 1, 1))), ("store", 2, 1)
        for stand in ((2, 0), (0, 2), (-1, 0), ("1", 0)):
            with self.assertRaises(NotStand):
                steps_back_by(msi(), stand, ("x", 1), NO_HEAPS[0])
        for wrong in NO_HEAPS:
            with self.assertRaises(NotHeap):
                steps_back_by(msi(), (1, 0), ("x", 1), wrong)
        for move in (
            ("row", 0, 0, -1), ("row", 7, 0, -1), ("row", -1, 0, -1), ("row", 3, 0, -1), ("row", 3, 2, 0), ("row", 6, -1, -1), ("row", 3, -1, 0),
            ("row", 3, 0, 2), ("row", 6, 1, 0), ("row", 6, 1), ("store", 1, 0), ("store", 3, 0), ("store", 2, 2),
            ("store", 2, -1), ("store", -1, 0), ("load", 2), ("x", 2, 1), ("row", "6", 1, -1), ("store", "2", 1), (),
        ):
            for told in (heap, ((0, 1), ())):
                with self.assertRaises(BadMove) as caught:
                    steps_back_by(msi(), (1, 0), move, told)
                self.assertEqual(caught.exception.at, 0)
        for stand in ((0, 0), (0, 1), (1, 1)):
            with self.assertRaises(BadNumber):
                steps_back_by(msi(), (1, 0), good, (stand, ()))
        with self.assertRaises(BadNumber):
            steps_back_by(msi(), (1, 0), ("row", 6, 1, -1), heap)
        with self.assertRaises(NotTable):
            steps_back_by(WRONG, (9, 9), ("x", 1), NO_HEAPS[0])

    def test_errors(self):
        for wrong in NO_HEAPS:
            with self.assertRaises(NotHeap):
                steps_back(msi(), wrong)
        for wrong in (((0, 0), ()), ((0, 1), ((1, 0, 1),)), ((0, 1), ((0, 1, 1),))):
            with self.assertRaises(NotHeap):
                steps_back(NO_ROWS, wrong)
        self.assertEqual(steps_back(NO_ROWS, ((0, 1), ((0, 0, 3),))), [])
        with self.assertRaises(NotTable):
            steps_back(WRONG, NO_HEAPS[0])

    def test_lists_are_new(self):
        heap = ((1, 0), ((0, 0, 2), (2, 1, 1)))
        for call in (
            lambda: steps_back(msi(), heap), lambda: steps_back_by(msi(), (1, 0), ("store", 2, 1), heap),
            lambda: least_of([heap]),
        ):
            first = call()
            expected = list(first)
            first.clear()
            self.assertEqual(call(), expected)

    def test_greater_lead_to_greater(self):
        for table in (msi(), forgetful(mosi(), 3)):
            for heap in heaps_over(met_stands(table), met_kinds(table), 1):
                for back in steps_back(table, heap):
                    behind = [told for _, told in heap_moves(table, back)]
                    self.assertTrue(any(is_below(heap, told) for told in behind))


if __name__ == "__main__":
    unittest.main()
