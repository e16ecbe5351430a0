import ast
import pathlib
import unittest

from coheir.backs import met_kinds, met_stands, steps_back
from coheir.bars import bar
from coheir.errors import NotTable
from coheir.ghosts import heap_moves, is_bad
from coheir.lineplay import line_begin, line_behind
from coheir.papers import verdict
from coheir.samples import forgetful, mesi, mosi, msi
from coheir.tablecheck import are_closed, is_comes, is_never, line_led_to, shown, wall_holds
from support import ALONE, NO_ROWS, SMALL, chance, changed, random_table, with_changed_row
from test_backs import below, heaps_over
from test_coherence import EMPTY_COPY
from test_ghosts import NO_HEAPS
from test_lineplay import EXAMPLE, random_play
from test_tables import ROW

WRONG = ((1,), 1, ())
PACKAGE = pathlib.Path(__file__).resolve().parent.parent / "coheir"


def closed_by_the_words(table, stands, kinds):
    """[132], by heaps of two or three caches of these kinds: all that they lead to is in the lists."""
    if (0, 1) not in stands or (0, 0) not in kinds:
        return False
    for heap in heaps_over(sorted(set(stands)), kinds, 3):
        for _, (stand, crowd) in heap_moves(table, heap):
            if stand not in stands or not all((s, m) in kinds for s, m, _ in crowd):
                return False
    return True


class ImportTests(unittest.TestCase):
    """[130]"""

    def test_the_checker_stands_alone(self):
        todo, seen = ["tablecheck"], []
        while todo:
            name = todo.pop()
            seen.append(name)
            for node in ast.walk(ast.parse((PACKAGE / (name + ".py")).read_text())):
                self.assertNotIsInstance(node, ast.Import)
                if isinstance(node, ast.ImportFrom):
                    told = node.module.removeprefix("coheir.")
                    self.assertTrue(told == "errors" or told.startswith(("check", "tablecheck")), told)
                    if told != "errors" and told not in seen:
                        todo.append(told)
        self.assertIn("checkwalls", seen)


class TableTests(unittest.TestCase):
    """[1], [2], as the checker reads them, and its one error"""

    def test_no_table(self):
        wrong = [
            ((), 1, ()), ((0,) * 9, 1, ()), ((1,), 1, ()), ((0, 3), 1, ()), ((0, -1), 1, ()), ((0, "1"), 1, ()),
            ((0,), 0, ()), ((0,), 7, ()), ((0,), "1", ()), ((0, 1, 2), 1, (ROW,) * 25),
        ]
        for number, at, value in (
            (0, 0, 2), (0, 0, -1), (0, 1, 3), (0, 2, 0), (0, 2, -2), (0, 5, -2), (0, 3, 2), (0, 4, -1), (0, 5, 0), (0, 6, (0, 1)),
            (0, 6, (0, 1, 3)), (0, 6, (0, 1, 2, 0)), (0, 7, "other"), (0, 7, "own"), (0, 8, "other"), (0, 8, "home"),
            (1, 2, -1), (1, 5, -1), (1, 2, 3), (1, 5, 3), (1, 7, "own"), (1, 8, "home"), (1, 8, ""), (1, 1, "0"),
        ):
            wrong.append(with_changed_row(msi(), number, at, value))
        for value in (-2, 3):
            wrong.append(with_changed_row(with_changed_row(msi(), 0, 2, value), 0, 5, value))
        for table in wrong:
            for function, arguments in (
                (line_led_to, (-1, [("x", 1)])), (are_closed, ([(9, 9)], [])), (wall_holds, ([(9, 9)], [], [])),
                (is_never, (("x",),)), (is_comes, (("x",),)), (shown, (("x",),)),
            ):
                with self.assertRaises(NotTable):
                    function(table, *arguments)

    def test_tables(self):
        source = chance(61)
        tables = [((0, 1, 2), 1, (ROW,) * 24), ((0,) + (2,) * 7, 6, ()), NO_ROWS, ALONE, msi(), mesi(), mosi()]
        for table in tables + [random_table(source) for _ in range(100)]:
            self.assertEqual(line_led_to(table, 2, []), line_begin(2))


class PlayTests(unittest.TestCase):
    """[30] to [34], as the checker makes moves"""

    def test_example(self):
        self.assertEqual(line_led_to(msi(), 2, EXAMPLE), (0, 5, ((1, 5), (1, 5))))
        self.assertEqual(line_led_to(msi(), 0, []), (0, 0, ()))

    def test_none(self):
        for n in (-1, -10 ** 30):
            self.assertIsNone(line_led_to(msi(), n, []))
        for move in (
            ("row", 0, 2, -1), ("row", 0, 0, 1), ("row", 7, 0, -1), ("row", -7, 0, -1), ("row", 3, 0, 1), ("load", 0),
            ("row", 0, -1, -1), ("row", "0", 0, -1), ("x", 0, 0, -1), ("row", -6, 0, -1), ("row", 0, "0", -1), ("row", 0, 0), ("x", 0), ("store", 0, 1), (),
        ):
            self.assertIsNone(line_led_to(msi(), 2, [move]), move)
            self.assertIsNone(line_led_to(msi(), 2, [move] + EXAMPLE), move)
        for move in (
            ("store", 0, 0), ("store", 0, -1), ("store", 0, "1"), ("store", 1, 1), ("store", 2, 1), ("store", -2, 1),
            ("x", 0, 1), ("row", -1, 0, -1), ("row", 6, 0, -2), ("row", 3, -1, 0), ("load", 1), ("load", 2), ("load", -2), ("load", "0"), ("load", 0, 0), ("store", 0), ("row", 3, 1, 1),
            ("row", 3, 1, -1), ("row", 3, 1, 2), ("row", 3, 1, "0"), ("row", 3, 0, 0), ("row", 6, 0, 0),
        ):
            self.assertIsNone(line_led_to(msi(), 2, EXAMPLE[:1] + [move]), move)

    def test_same_as_plays(self):
        source = chance(62)
        for _ in range(150):
            table = random_table(source)
            n = source.randint(0, 4)
            moves, states = random_play(source, table, n, 15)
            self.assertEqual(line_led_to(table, n, moves), states[-1])
            told = [("row", source.randint(0, 24), source.randint(-1, n), source.randint(-1, n)) for _ in range(20)]
            told += [("load", k) for k in range(-1, n + 1)] + [("store", k, 1) for k in range(-1, n + 1)]
            for move in told:
                self.assertEqual(line_led_to(table, n, moves + [move]), line_behind(table, states[-1], move))

    def test_lists_stay(self):
        moves = list(EXAMPLE)
        line_led_to(msi(), 2, moves)
        is_comes(msi(), ("comes", 2, moves))
        self.assertEqual(moves, EXAMPLE)


class ClosedTests(unittest.TestCase):
    """[132]"""

    def test_met_ones(self):
        source = chance(63)
        for table in [msi(), mesi(), mosi(), NO_ROWS, ALONE, SMALL] + [random_table(source) for _ in range(80)]:
            stands, kinds = met_stands(table), met_kinds(table)
            self.assertIs(are_closed(table, stands, kinds), True)
            self.assertIs(are_closed(table, stands[::-1] + stands, kinds[::-1] + kinds[:1]), True)
            for stand in stands:
                self.assertIs(are_closed(table, [told for told in stands if told != stand], kinds), False)
            for kind in kinds:
                self.assertIs(are_closed(table, stands, [told for told in kinds if told != kind]), False)

    def test_everything(self):
        source = chance(64)
        for _ in range(50):
            table = random_table(source)
            stands = [(home, mark) for home in range(table[1]) for mark in (0, 1)]
            kinds = [(state, mark) for state in range(len(table[0])) for mark in (0, 1)]
            self.assertIs(are_closed(table, stands, kinds), True)

    def test_by_the_words(self):
        source = chance(65)
        answers = {True: 0, False: 0}
        while min(answers.values()) < 25:
            table = random_table(source, 3, 2, 4)
            stands = [(home, mark) for home in range(table[1]) for mark in (0, 1) if source.random() < 0.8]
            kinds = [(state, mark) for state in range(len(table[0])) for mark in (0, 1) if source.random() < 0.8]
            expected = closed_by_the_words(table, stands, kinds)
            answers[expected] += 1
            self.assertIs(are_closed(table, stands, kinds), expected, (table, stands, kinds))

    def test_no_entries(self):
        stands, kinds = met_stands(msi()), met_kinds(msi())
        for stand in ((2, 0), (0, 2), (-1, 0), ("0", 0), (0, "0"), (10 ** 30, 0)):
            self.assertIs(are_closed(msi(), stands + [stand], kinds), False)
        for kind in ((3, 0), (0, 2), (-1, 0), ("0", 0), (0, "0"), (0, -1)):
            self.assertIs(are_closed(msi(), stands, kinds + [kind]), False)
        for wrong in ((0, -1), (0, 2), (-1, 0), (1, 0), (0, 10 ** 30)):
            self.assertIs(are_closed(NO_ROWS, [(0, 1), wrong], [(0, 0)]), False)
        for wrong in ((0, -1), (0, 2), (-1, 0), (3, 0), (0, -10 ** 30)):
            self.assertIs(are_closed(NO_ROWS, [(0, 1)], [(0, 0), wrong]), False)
        self.assertIs(are_closed(ALONE, [(0, 1)], [(0, 0), (-1, 0)]), False)
        self.assertIs(are_closed(msi(), [], []), False)
        self.assertIs(are_closed(NO_ROWS, [], [(0, 0)]), False)
        self.assertIs(are_closed(NO_ROWS, [(0, 1)], []), False)
        self.assertIs(are_closed(NO_ROWS, [(0, 1)], [(0, 0)]), True)
        # A store is never made here, but a cache of the kind (2, 0) could make one.
        self.assertIs(are_closed(NO_ROWS, [(0, 1)], [(0, 0), (2, 0)]), False)
        self.assertIs(are_closed(NO_ROWS, [(0, 1), (0, 0)], [(0, 0), (2, 0)]), False)
        self.assertIs(are_closed(NO_ROWS, [(0, 1), (0, 0)], [(0, 0), (2, 0), (2, 1)]), True)


class WallTests(unittest.TestCase):
    """[131], [133], [134]"""

    def holds(self, table, heaps, stands=None, kinds=None):
        return wall_holds(table, stands or met_stands(table), kinds or met_kinds(table), heaps)

    def test_bars(self):
        source = chance(66)
        tables = [msi(), mesi(), mosi(), NO_ROWS, forgetful(msi(), 4), forgetful(mosi(), 3)]
        for table in tables + [random_table(source, 5, 3, 12) for _ in range(40)]:
            heaps = bar(table)
            self.assertIs(self.holds(table, heaps), True)
            self.assertIs(self.holds(table, heaps[::-1] + heaps), True)
            for at in range(0, len(heaps), 3):
                self.assertIs(self.holds(table, heaps[:at] + heaps[at + 1:]), False)

    def test_more_entries(self):
        heaps = bar(msi()) + [((0, 0), ((1, 0, 7), (1, 1, 2))), ((1, 1), ((2, 0, 3),))]
        self.assertIs(self.holds(msi(), heaps), True)
        # A heap more must have its steps back above one of the heaps, too.
        self.assertIs(self.holds(msi(), bar(msi()) + [((0, 1), ((0, 0, 1),))]), False)
        self.assertIs(self.holds(msi(), [(stand, ()) for stand in met_stands(msi())]), True)
        self.assertIs(self.holds(NO_ROWS, []), True)
        self.assertIs(self.holds(NO_ROWS, [((0, 1), ())]), True)
        self.assertIs(self.holds(msi(), []), False)

    def test_more_stands_and_kinds(self):
        table = NO_ROWS
        stands, kinds = [(0, 1), (0, 0)], [(0, 0), (1, 0), (1, 1)]
        heaps = [((0, 1), ((1, 0, 1),)), ((0, 0), ((1, 0, 1),))]
        self.assertIs(wall_holds(table, stands, kinds, heaps), True)
        self.assertIs(wall_holds(table, stands, kinds, heaps[:1]), False)
        self.assertIs(wall_holds(table, stands[:1], kinds, heaps[:1]), True)
        self.assertIs(wall_holds(table, stands[:1], kinds, heaps), False)
        self.assertIs(wall_holds(table, stands, [(0, 0), (1, 1)], heaps), False)
        self.assertIs(wall_holds(table, stands, [(0, 0), (1, 1)], []), True)

    def test_not_closed(self):
        for stands, kinds in (([(0, 1)], met_kinds(msi())), (met_stands(msi()), [(0, 0)]), ([], [])):
            self.assertIs(wall_holds(msi(), stands, kinds, bar(msi())), False)

    def test_no_heaps(self):
        for heap in NO_HEAPS:
            self.assertIs(self.holds(msi(), bar(msi()) + [heap]), False, heap)
        for crowd in (((0, 0, 0),), ((0, 0, -1),), ((0, 0, 1), (0, 0, 2)), ((0, 1, 1), (0, 0, 1)), ((0, 2, 1),)):
            self.assertIs(wall_holds(NO_ROWS, [(0, 1)], [(0, 0), (0, 1)], [((0, 1), crowd)]), False, crowd)

    def test_by_the_words(self):
        source = chance(67)
        answers = {True: 0, False: 0}
        while min(answers.values()) < 40:
            table = random_table(source, 3, 2, 5)
            stands, kinds = met_stands(table), met_kinds(table)
            every = heaps_over(stands, kinds, 3)
            heaps = [heap for heap in bar(table) if source.random() < 0.9] + source.sample(every, min(3, len(every)))
            asked = [(stand, ((s, 0, 1),)) for stand in stands for s, m in kinds if m == 0 and table[0][s] > 0]
            asked += [back for heap in heaps for back in steps_back(table, heap)]
            expected = all(any(below(one, heap) for one in heaps) for heap in asked)
            answers[expected] += 1
            self.assertIs(self.holds(table, heaps), expected)

    def test_any_number(self):
        for number in (50, 10 ** 30):
            more = ((1, 0), ((0, 0, number), (0, 1, number), (1, 0, number), (2, 1, number)))
            self.assertIs(self.holds(msi(), bar(msi()) + [more]), True)
            self.assertIs(self.holds(msi(), bar(msi()) + [((0, 1), ((1, 1, number),))]), False)
            self.assertIs(self.holds(msi(), bar(msi()) + [((1, 0), ((0, 0, number),))]), False)

    def test_moves_stay_behind_the_wall(self):
        for table in (msi(), forgetful(msi(), 4), mosi()):
            heaps = bar(table)
            for heap in heaps_over(met_stands(table), met_kinds(table), 2):
                if not any(below(one, heap) for one in heaps):
                    self.assertFalse(is_bad(table, heap))
                    for _, behind in heap_moves(table, heap):
                        self.assertFalse(any(below(one, behind) for one in heaps))

    def test_lists_stay(self):
        lists = met_stands(msi())[::-1], met_kinds(msi())[::-1], bar(msi())[::-1]
        given = [list(entries) for entries in lists]
        wall_holds(msi(), *lists)
        are_closed(msi(), *lists[:2])
        is_never(msi(), ("never",) + lists)
        shown(msi(), ("never",) + lists)
        self.assertEqual(list(lists), given)


class NeverTests(unittest.TestCase):
    """[120], [131]"""

    def test_known_tables(self):
        for table in (msi(), mesi(), mosi(), NO_ROWS, ALONE):
            paper = verdict(table)
            self.assertIs(is_never(table, paper), True)
            self.assertIs(is_comes(table, paper), False)
            self.assertEqual(shown(table, paper), "never")
            mixed = ("never",) + tuple(entries[::-1] + entries[:2] for entries in paper[1:])
            self.assertEqual(shown(table, mixed), "never")

    def test_one_thing_wrong(self):
        word, stands, kinds, heaps = verdict(mosi())
        for at in range(len(stands)):
            self.none(mosi(), (word, stands[:at] + stands[at + 1:], kinds, heaps))
        for at in range(len(kinds)):
            self.none(mosi(), (word, stands, kinds[:at] + kinds[at + 1:], heaps))
        for at in range(len(heaps)):
            self.none(mosi(), (word, stands, kinds, heaps[:at] + heaps[at + 1:]))
            stand, crowd = heaps[at]
            more = crowd[:-1] + (crowd[-1][:2] + (crowd[-1][2] + 1,),)
            self.none(mosi(), (word, stands, kinds, changed(tuple(heaps), at, (stand, more)) and
                               heaps[:at] + [(stand, more)] + heaps[at + 1:]))
        self.none(mosi(), (word, stands + [(2, 0)], kinds, heaps))
        self.none(mosi(), (word, stands, kinds + [(4, 0)], heaps))
        self.none(mosi(), (word, stands, kinds, heaps + [((0, 1), ((0, 0, 0),))]))

    def test_other_forms(self):
        _, stands, kinds, heaps = verdict(msi())
        for paper in (
            (), ("never",), ("never", stands), ("never", stands, kinds), ("never", stands, kinds, heaps, heaps),
            ("Never", stands, kinds, heaps), ("comes", 1, stands, kinds), ("none", stands, kinds, heaps), ("comes", 1),
            ("comes", 0, []), ("", [], [], []), ("comes",), ("never", [], [], []), ("comes", 1, [], []),
        ):
            self.none(msi(), paper)

    def test_beginnings(self):
        everything = [(stand, ()) for stand in met_stands(msi())]
        paper = ("never", met_stands(msi()), met_kinds(msi()), everything)
        self.assertTrue(wall_holds(msi(), *paper[1:]))
        self.none(msi(), paper)
        for crowd in ((), ((0, 0, 1),), ((0, 0, 10 ** 30),)):
            self.assertTrue(wall_holds(NO_ROWS, [(0, 1)], [(0, 0)], [((0, 1), crowd)]))
            self.none(NO_ROWS, ("never", [(0, 1)], [(0, 0)], [((0, 1), crowd)]))
        far = ("never", [(0, 1), (0, 0)], [(0, 0), (0, 1)], [((0, 0), ()), ((0, 1), ((0, 1, 1),))])
        self.assertEqual(shown(NO_ROWS, far), "never")

    def test_tables_with_a_fault(self):
        for table in (forgetful(msi(), 4), forgetful(mosi(), 3), SMALL, EMPTY_COPY):
            self.assertTrue(wall_holds(table, met_stands(table), met_kinds(table), bar(table)))
            self.none(table, ("never", met_stands(table), met_kinds(table), bar(table)))
            self.none(table, verdict(msi()))

    def none(self, table, paper):
        self.assertIs(is_never(table, paper), False)
        self.assertIs(is_comes(table, paper), False)
        self.assertEqual(shown(table, paper), "none")


class ComesTests(unittest.TestCase):
    """[121], [135], [136]"""

    def right(self, table, paper):
        self.assertIs(is_comes(table, paper), True)
        self.assertIs(is_never(table, paper), False)
        self.assertEqual(shown(table, paper), "comes")

    def wrong(self, table, paper):
        self.assertIs(is_comes(table, paper), False)
        self.assertEqual(shown(table, paper), "none")

    def test_example(self):
        self.right(EMPTY_COPY, ("comes", 1, [("row", 0, 0, -1)]))

    def test_bad_runs(self):
        for table in (SMALL, forgetful(msi(), 4), forgetful(msi(), 2), forgetful(mosi(), 3), forgetful(mesi(), 5)):
            word, count, moves = verdict(table)
            self.right(table, (word, count, moves))
            self.right(table, (word, count + 3, moves))
            self.right(table, (word, 10 ** 30, moves))
            self.wrong(table, (word, count - 1, moves))
            self.wrong(table, (word, -1, moves))
            for length in range(len(moves)):
                self.wrong(table, (word, count, moves[:length]))
            self.wrong(table, (word, count, moves + [("load", 9)]))
            self.wrong(msi(), (word, count, moves))

    def test_values(self):
        start = [("row", 0, 0, -1), ("row", 0, 1, -1), ("row", 4, 0, -1)]
        table = forgetful(msi(), 4)
        for values in ([1], [10 ** 30], [3, 1], [1, 2, 7]):
            self.right(table, ("comes", 2, start + [("store", 0, value) for value in values]))
        for values in ([0], [-1], [1, 1], [3, 5, 3], ["1"], [1, 0]):
            self.wrong(table, ("comes", 2, start + [("store", 0, value) for value in values]))

    def test_same_value_again_is_seen_as_old(self):
        # The reader's copy has the value that was stored twice: nothing is shown by that.
        moves = [("row", 2, 0, -1), ("store", 0, 4), ("row", 1, 1, 0), ("row", 4, 0, -1), ("store", 0, 4)]
        self.wrong(forgetful(msi(), 4), ("comes", 2, moves))
        self.right(forgetful(msi(), 4), ("comes", 2, moves[:4] + [("store", 0, 5)]))

    def test_loads_and_more_moves(self):
        table = forgetful(msi(), 4)
        moves = [("row", 0, 0, -1), ("load", 0), ("row", 0, 1, -1), ("load", 1), ("row", 4, 0, -1), ("store", 0, 1)]
        self.right(table, ("comes", 2, moves + [("load", 1), ("load", 0)]))

    def test_a_cache_that_makes_no_move(self):
        table = ((0, 0, 1), 1, ((0, 0, -1, 0, 1, -1, (2, 1, 2), "keep", "keep"),))
        self.right(table, ("comes", 2, [("row", 0, 0, -1)]))
        self.right(table, ("comes", 10 ** 30, [("row", 0, 0, -1)]))
        self.right(table, ("comes", 7, [("row", 0, 6, -1)]))
        self.wrong(table, ("comes", 1, [("row", 0, 0, -1)]))
        table = ((0, 0, 2), 1, ((0, 0, -1, 0, 1, -1, (2, 1, 2), "keep", "keep"),))
        self.right(table, ("comes", 7, [("row", 0, 0, -1), ("store", 5, 1)]))
        self.wrong(table, ("comes", 2, [("row", 0, 0, -1), ("store", 1, 1)]))
        table = ((0, 0, 1), 1, ((0, 0, -1, 0, 1, -1, (2, 1, 2), "keep", "keep"),))
        self.wrong(table, ("comes", 7, [("row", 0, 7, -1)]))

    def test_caches_of_any_numbers(self):
        """Also large ones of those that make moves, and wrong ones"""
        table = forgetful(msi(), 4)
        big = 10 ** 30
        for one, other in ((big, 7), (7, big), (big + 1, big), (0, big)):
            moves = [("row", 2, one, -1), ("store", one, 4), ("row", 1, other, one), ("row", 4, other, -1), ("load", one),
                     ("store", other, 9)]
            for count in (max(one, other) + 1, max(one, other) + 2, big * big):
                self.right(table, ("comes", count, moves))
            for count in (max(one, other), min(one, other), 2, big - 1):
                self.wrong(table, ("comes", count, moves))
        for move in (("row", 2, "0", -1), ("row", 1, 0, "1"), ("store", "0", 1), ("load", "x"), (), ("row",), ("row", 0, -7, -1)):
            self.wrong(table, ("comes", big, [move]))
            self.wrong(table, ("comes", big, moves + [move]))

    def test_old_copies_without_a_right(self):
        self.wrong(msi(), ("comes", 3, EXAMPLE))
        self.wrong(msi(), ("comes", 2, [("row", 2, 0, -1), ("store", 0, 1), ("store", 0, 2)]))
        self.wrong(NO_ROWS, ("comes", 5, []))
        self.wrong(NO_ROWS, ("comes", 0, []))
        self.wrong(msi(), ("comes", 1, [("row", 2, 0, -1), ("store", 0, 1), ("row", 6, 0, -1)]))

    def test_only_one_kind(self):
        source = chance(68)
        for _ in range(60):
            table = random_table(source, 3, 2, 8)
            words = set()
            for _ in range(6):
                moves, _ = random_play(source, table, 2, 6, (1, 2, 3, 4, 5, 6))
                words.add(shown(table, ("comes", 2, moves)))
            words.add(shown(table, ("never", met_stands(table), met_kinds(table), bar(table))))
            self.assertFalse({"never", "comes"} <= words)


if __name__ == "__main__":
    unittest.main()
