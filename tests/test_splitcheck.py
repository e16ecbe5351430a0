"""The checker of split tables, [480] to [485]"""

import ast
import pathlib
import unittest

import machines
import orders
import proofs_told
from coheir.backs import met_kinds, met_stands
from coheir.errors import NoAnswer, NotProgram, NotTable
from coheir.making import made_program
from coheir.papers import verdict
from coheir.samples import msi
from coheir.splitbacks import split_backs, split_met
from coheir.splitbars import split_bad_heaps, split_bar
from coheir.splitcheck import (
    are_split_closed, is_split_comes, is_split_never, split_case_holds, split_heaps_hold, split_led_to,
    split_machine_led_to, split_shown,
)
from coheir.splitmaking import split_made_program
from coheir.splitpapers import split_verdict
from coheir.splitplay import split_begin, split_behind
from coheir.splitsamples import split_forgetful, split_msi
from coheir.splittables import is_split_table, split_of
from coheir.tablecheck import are_closed, is_comes, is_never, shown, wall_holds
from splits import (
    ASKING, BOTH, CARELESS, NO_SPLIT_ROWS, SELF, SPLIT_ALONE, all_kinds, all_notes, all_stands,
    heaps_over, is_below_by_words, machine_behind, met_by_words, nearby_split, played, random_machine_moves, random_moves,
    random_split, steps_from,
)
from support import chance, changed, random_table
from test_ordercheck import NO_PROGRAMS
from test_splitcoherence import THREE
from test_splitghosts import NO_SPLIT_HEAPS, WRONG_CROWDS
from test_splitplay import EXAMPLE

PACKAGE = pathlib.Path(__file__).resolve().parent.parent / "coheir"
BIG = 10 ** 30
WRONG = ((1,), 1, 1, ())
FORGETFUL = split_forgetful(split_msi(), 4)
# [485]
SELF_MOVES = [("row", 0, 0, -1), ("row", 1, 0, 0)]


def is_above_one(heaps, heap):
    return any(is_below_by_words(one, heap) for one in heaps)


class ImportTests(unittest.TestCase):
    """[480]: the errors, the checkers of tables and of orders, and one another alone"""

    def test_imports(self):
        todo, seen = ["splitcheck"], []
        while todo:
            name = todo.pop()
            seen.append(name)
            for node in ast.walk(ast.parse((PACKAGE / (name + ".py")).read_text())):
                self.assertNotIsInstance(node, ast.Import)
                if isinstance(node, ast.ImportFrom):
                    told = node.module.removeprefix("coheir.")
                    self.assertTrue(told == "errors" or told.startswith(("check", "tablecheck", "ordercheck")), told)
                    if told != "errors" and told not in seen:
                        todo.append(told)
        self.assertIn("checkwalls", seen)
        self.assertIn("checkruns", seen)


class TableTests(unittest.TestCase):
    """[400], [401], as the checker reads them, and its errors"""

    CALLS = (
        lambda table: split_led_to(table, -1, [("x", 1)]), lambda table: are_split_closed(table, [(9, 9)], [], []),
        lambda table: split_heaps_hold(table, [(9, 9)], [], [], []), lambda table: is_split_never(table, ("x",)),
        lambda table: is_split_comes(table, ("x",)), lambda table: split_shown(table, ("x",)),
        lambda table: split_machine_led_to(table, (), []), lambda table: split_case_holds(table, (), [], ()),
    )

    def wrong(self, table):
        self.assertFalse(is_split_table(table))
        for call in self.CALLS:
            with self.assertRaises(NotTable):
                call(table)

    def test_forms(self):
        row = (0, 0, -1, 0, 0, (0,), (), "keep", "keep")
        for table in (
            (), msi(), ((0,), 1, 1), ((0,), 1, 1, (), ()), ((), 1, 1, ()), ((0,) * 9, 1, 1, ()), ((1,), 1, 1, ()),
            ((0, 3), 1, 1, ()), ((0, -1), 1, 1, ()), ((0, "1"), 1, 1, ()), ((0,), 0, 1, ()), ((0,), 7, 1, ()),
            ((0,), "1", 1, ()), ((0,), 1, 0, ()), ((0,), 1, 9, ()), ((0,), 1, "1", ()), ((0,), 1, True, ()), ((0,), True, 1, ()),
            ((False,), 1, 1, ()), ((0,), 1, 1, []), ((0,), 1, 1, ((-1, -1, -1, -1, -1, (0,), (), "keep", "keep"),)),
            ((0,), 1, 1, ((-1, -1, 0, -1, -1, (0,), ((0, "got"),), "keep", "keep"),)), ((0,), 1, 1, (row,) * 41), ((0,), 1, 1, (row[:8],)), ((0,), 1, 1, (row + ("keep",),)),
        ):
            self.wrong(table)
        for table in (((0,), 1, 1, (row,) * 40), ((0,) + (2,) * 7, 6, 8, ()), NO_SPLIT_ROWS, SPLIT_ALONE):
            self.assertEqual(split_led_to(table, 2, []), split_begin(2))

    def test_rows(self):
        """Whatever one value of a row is: a table for the checker exactly if it is one"""
        values = {0: (-2, -1, 0, 1, 2, 5, "0", True), 1: (-2, -1, 0, 1, 3, 5, "0", True), 2: (-2, -1, 0, 4, 5, "0", True),
                  3: (-2, -1, 0, 4, 5, "0", False), 4: (-2, -1, 0, 4, 5, "0", False),
                  5: ((), (0, 1), (0, 1, 2, 3, 5), (0, 1, 2, 3, -1), (0, 1, 2, 3, "4"), (0,) * 5, (0,) * 6),
                  6: ((), ((0, "own"),), ((0, "home"),), ((0, "got"),), ((0, "keep"),), ((0, "other"),), ((5, "own"), (5, "home")),
                      ((-1, "own"), (-1, "home")), (("0", "own"), ("0", "home")), ((0,),), ((0, "own", 0),),
                      ((4, "own"),) * 2, ((4, "home"),) * 2, ((0, "own"),) * 3, ((0, "home"),) * 3, ((0, "got"),) * 2),
                  7: ("keep", "own", "home", "got", "other", ""), 8: ("keep", "own", "home", "got", "other", "")}
        answers = {True: 0, False: 0}
        for table in (split_msi(), ):
            for number, row in enumerate(table[3]):
                for at, told in values.items():
                    for value in told:
                        other = changed(table, 3, changed(table[3], number, changed(row, at, value)))
                        answers[is_split_table(other)] += 1
                        if is_split_table(other):
                            self.assertEqual(split_led_to(other, 1, []), split_begin(1))
                        else:
                            self.wrong(other)
        self.assertGreater(min(answers.values()), 100)

    def test_by_chance(self):
        source = chance(1)
        for _ in range(100):
            table = random_split(source)
            self.assertEqual(split_led_to(table, 2, []), split_begin(2))
            if table[3]:
                number, at = source.randrange(len(table[3])), source.randrange(9)
                value = source.choice((-1, 0, 5, (), (0,) * 8, "keep", "own", "home", "got", ((0, "got"),), ((0, "own"),)))
                other = changed(table, 3, changed(table[3], number, changed(table[3][number], at, value)))
                if is_split_table(other):
                    self.assertEqual(split_led_to(other, 0, []), split_begin(0))
                else:
                    self.wrong(other)

    def test_no_program(self):
        for program in NO_PROGRAMS:
            for call in (lambda: split_machine_led_to(split_msi(), program, [("jump",)]),
                         lambda: split_case_holds(split_msi(), program, [("jump",)], ())):
                with self.assertRaises(NotProgram):
                    call()


class PlayTests(unittest.TestCase):
    """[410] to [413], as the checker makes moves"""

    def test_example(self):
        self.assertEqual(split_led_to(split_msi(), 2, EXAMPLE), (4, 0, ((0, 5), (0, -1)), ((2, 5),)))
        self.assertEqual(split_led_to(split_msi(), 0, []), (0, 0, (), ()))

    def test_none(self):
        for n in (-1, -BIG):
            self.assertIsNone(split_led_to(split_msi(), n, []))
        for move in (
            ("row", 0, 2, -1), ("row", 0, 0, 0), ("row", 9, 0, -1), ("row", -9, 0, -1), ("row", 4, -1, 0), ("load", 0), ("row", 0, -1, -1),
            ("row", "0", 0, -1), ("row", 0, "0", -1), ("row", 0, 0, "-1"), ("x", 0, 0, -1), ("row", 0, 0), ("x", 0), ("store", 0, 1),
            (), ("row", 0, -2, -1), ("row", 0, 0, -2), ("row", 4, -1, -1), ("row", 6, 0, -1),
        ):
            self.assertIsNone(split_led_to(split_msi(), 2, [move]), move)
            self.assertIsNone(split_led_to(split_msi(), 2, [move] + EXAMPLE), move)
        for move in (
            ("store", 0, 0), ("store", 0, -1), ("store", 0, "1"), ("store", 1, 1), ("store", 2, 1), ("store", -2, 1), ("x", 0, 1),
            ("row", 7, 0, 0), ("row", 7, 1, -1), ("row", 7, -1, -1), ("row", 5, 0, 0), ("load", 1), ("load", 2), ("load", -2),
            ("load", "0"), ("load", 0, 0), ("store", 0), ("row", 8, -1, 0), ("row", -2, 0, -1),
        ):
            self.assertIsNone(split_led_to(split_msi(), 2, EXAMPLE[:3] + [move]), move)

    def test_same_as_plays(self):
        source = chance(2)
        for number in range(150):
            table = (split_msi(), BOTH, random_split(source))[number % 3]
            n = source.randint(0, 4)
            moves = random_moves(source, table, n, 15)
            state = played(table, n, moves).state()
            self.assertEqual(split_led_to(table, n, moves), state)
            told = [("row", source.randint(-1, 9), source.randint(-2, n), source.randint(-2, len(state[3]))) for _ in range(20)]
            told += [("load", k) for k in range(-1, n + 1)] + [("store", k, BIG) for k in range(-1, n + 1)]
            for move in told:
                self.assertEqual(split_led_to(table, n, moves + [move]), split_behind(table, state, move))

    def test_lists_stay(self):
        moves = list(EXAMPLE)
        split_led_to(split_msi(), 2, moves)
        is_split_comes(split_msi(), ("comes", 2, moves))
        split_shown(split_msi(), ("comes", 2, moves))
        self.assertEqual(moves, EXAMPLE)


class ClosedTests(unittest.TestCase):
    """[481]"""

    def test_met_ones(self):
        source = chance(3)
        tables = [split_msi(), ASKING, SELF, CARELESS, BOTH, NO_SPLIT_ROWS, SPLIT_ALONE]
        for table in tables + [random_split(source) for _ in range(80)]:
            lists = split_met(table)
            self.assertIs(are_split_closed(table, *lists), True)
            self.assertIs(are_split_closed(table, *(part[::-1] + part[:2] for part in lists)), True)
            for at in range(3):
                for entry in lists[at]:
                    less = [told for told in lists[at] if told != entry]
                    self.assertIs(are_split_closed(table, *changed(lists, at, less)), False, (table, at, entry))

    def test_everything(self):
        source = chance(4)
        for _ in range(50):
            table = random_split(source)
            self.assertIs(are_split_closed(table, all_stands(table), all_kinds(table), all_notes(table)), True)

    def test_by_the_words(self):
        """By heaps with two caches of each kind and two messages of each: all that they lead to is in the lists"""
        source = chance(5)
        answers = {True: 0, False: 0}
        while min(answers.values()) < 30:
            table = random_split(source, 3, 2, 2, 4)
            lists = tuple([entry for entry in part if source.random() < 0.85]
                          for part in (all_stands(table), all_kinds(table), all_notes(table)))
            stands, kinds, notes = lists
            expected = (0, 1) in stands and (0, 0) in kinds
            for stand in stands:
                heap = (stand, tuple((s, m, 2) for s, m in kinds), tuple((s, m, 2) for s, m in notes))
                for _, behind in steps_from(table, heap):
                    expected = expected and behind[0] in stands
                    expected = expected and all(entry[:2] in kinds for entry in behind[1])
                    expected = expected and all(entry[:2] in notes for entry in behind[2])
            answers[expected] += 1
            self.assertIs(are_split_closed(table, *lists), expected, (table, lists))

    def test_no_entries(self):
        lists = split_met(split_msi())
        for at, wrong in (
            (0, ((5, 0), (0, 2), (-1, 0), ("0", 0), (0, "0"), (BIG, 0), (0, True), (0,), (0, 1, 0))),
            (1, ((5, 0), (0, 2), (-1, 0), ("0", 0), (0, "0"), (0, -1), (True, 0), (0,), (0, 1, 0))),
            (2, ((5, 0), (0, 2), (-1, 0), ("0", 0), (0, "0"), (0, -1), (True, 0), (0,), (0, 1, 0))),
        ):
            for entry in wrong:
                self.assertIs(are_split_closed(split_msi(), *changed(lists, at, lists[at] + [entry])), False)
        for wrong in ((1, 0), (0, -1), (-1, 0), (0, 2)):
            self.assertIs(are_split_closed(NO_SPLIT_ROWS, [(0, 1)], [(0, 0)], [wrong]), False)
            self.assertIs(are_split_closed(NO_SPLIT_ROWS, [(0, 1), wrong], [(0, 0)], []), False)
        self.assertIs(are_split_closed(NO_SPLIT_ROWS, [(0, 1)], [(0, 0)], []), True)
        self.assertIs(are_split_closed(NO_SPLIT_ROWS, [(0, 1)], [(0, 0)], [(0, 0), (0, 1)]), True)
        for stands, kinds in (([], [(0, 0)]), ([(0, 1)], []), ([], []), ([(0, 0)], [(0, 0)]), ([(0, 1)], [(0, 1)])):
            self.assertIs(are_split_closed(NO_SPLIT_ROWS, stands, kinds, []), False)
        # A store is never made here, but a cache of the kind (2, 0) could make one, and make the message old.
        every = [(0, 1), (0, 0)], [(0, 0), (2, 0), (2, 1)], [(0, 1), (0, 0)]
        self.assertIs(are_split_closed(NO_SPLIT_ROWS, *every), True)
        for at in range(3):
            self.assertIs(are_split_closed(NO_SPLIT_ROWS, *changed(every, at, every[at][:-1])), False)

    def test_kinds_are_no_notes(self):
        """A kind of messages is none of caches with the same numbers"""
        table = ((0, 0), 1, 2, ((0, -1, -1, 0, -1, (0, 1), ((1, "home"),), "keep", "keep"),))
        self.assertIs(are_split_closed(table, [(0, 1)], [(0, 0)], [(1, 1)]), True)
        self.assertIs(are_split_closed(table, [(0, 1)], [(0, 0), (1, 1)], []), False)


class WallTests(unittest.TestCase):
    """[481], [482]"""

    def holds(self, table, heaps, lists=None):
        return split_heaps_hold(table, *(lists or split_met(table)), heaps)

    def test_bars(self):
        source = chance(6)
        tables = [ASKING, CARELESS, SELF, BOTH, NO_SPLIT_ROWS] + [random_split(source, 5, 3, 4, 14) for _ in range(50)]
        for table in tables:
            heaps = split_bar(table)
            self.assertIs(self.holds(table, heaps), True)
            self.assertIs(self.holds(table, heaps[::-1] + heaps), True)
            for at in range(0, len(heaps), 3):
                self.assertIs(self.holds(table, heaps[:at] + heaps[at + 1:]), False)

    def test_known_one(self):
        for table in (split_msi(), FORGETFUL):
            heaps = split_bar(table)
            self.assertIs(self.holds(table, heaps), True)
            for at in (0, 200, len(heaps) - 1):
                self.assertIs(self.holds(table, heaps[:at] + heaps[at + 1:]), False)

    def test_more_entries(self):
        heaps = split_bar(ASKING)
        more = [((0, 0), ((2, 0, 7), (2, 1, 2)), ((0, 0, 3),)), ((1, 1), ((2, 0, 3),), ((1, 0, 1), (1, 1, 9)))]
        self.assertIs(self.holds(ASKING, heaps + more), True)
        # Heaps more must have their steps back above one of the heaps, too.
        self.assertIs(self.holds(ASKING, heaps + [((0, 1), ((0, 0, 1),), ())]), False)
        self.assertIs(self.holds(ASKING, heaps + [((0, 1), (), ((0, 0, 1),))]), False)
        nobody = [(stand, (), ()) for stand in split_met(ASKING)[0]]
        self.assertIs(self.holds(ASKING, nobody), True)
        self.assertIs(self.holds(ASKING, nobody[1:]), False)
        self.assertIs(self.holds(NO_SPLIT_ROWS, []), True)
        self.assertIs(self.holds(NO_SPLIT_ROWS, [((0, 1), (), ())]), True)
        self.assertIs(self.holds(ASKING, []), False)

    def test_more_stands_and_kinds(self):
        lists = [(0, 1), (0, 0)], [(0, 0), (1, 0), (1, 1)], [(0, 0)]
        heaps = [((0, 1), ((1, 0, 1),), ()), ((0, 0), ((1, 0, 1),), ())]
        self.assertIs(split_heaps_hold(NO_SPLIT_ROWS, *lists, heaps), True)
        self.assertIs(split_heaps_hold(NO_SPLIT_ROWS, *lists, heaps[:1]), False)
        self.assertIs(split_heaps_hold(NO_SPLIT_ROWS, lists[0][:1], *lists[1:], heaps[:1]), True)
        self.assertIs(split_heaps_hold(NO_SPLIT_ROWS, lists[0][:1], *lists[1:], heaps), False)
        self.assertIs(split_heaps_hold(NO_SPLIT_ROWS, lists[0], [(0, 0), (1, 1)], [], heaps), False)
        self.assertIs(split_heaps_hold(NO_SPLIT_ROWS, lists[0], [(0, 0), (1, 1)], [], []), True)
        noted = [((0, 1), ((1, 0, 1),), ((0, 0, 1),))]
        self.assertIs(split_heaps_hold(NO_SPLIT_ROWS, *lists, heaps + noted), True)
        self.assertIs(split_heaps_hold(NO_SPLIT_ROWS, *lists[:2], [(0, 1)], heaps + noted), False)
        self.assertIs(split_heaps_hold(NO_SPLIT_ROWS, *lists[:2], [], heaps + noted), False)
        # Only with a message more a bad heap would be above one of these.
        self.assertIs(split_heaps_hold(NO_SPLIT_ROWS, *lists, heaps[:1] + [((0, 0), ((1, 0, 1),), ((0, 0, 1),))]), False)

    def test_not_closed(self):
        lists = split_met(ASKING)
        for at in range(3):
            for part in ([], lists[at][1:], lists[at] + [(9, 0)]):
                self.assertIs(split_heaps_hold(ASKING, *changed(lists, at, part), split_bar(ASKING)), False)

    def test_no_heaps(self):
        heaps = split_bad_heaps(split_msi())
        everything = all_stands(split_msi()), all_kinds(split_msi()), all_notes(split_msi())
        nobody = [(stand, (), ()) for stand in everything[0]]
        self.assertIs(split_heaps_hold(split_msi(), *everything, nobody + heaps), True)
        for heap in NO_SPLIT_HEAPS:
            self.assertIs(split_heaps_hold(split_msi(), *everything, nobody + heaps + [heap]), False, heap)
        for crowd in WRONG_CROWDS:
            self.assertIs(split_heaps_hold(NO_SPLIT_ROWS, [(0, 1)], [(0, 0), (0, 1)], [(0, 0)], [((0, 1), crowd, ())]), False)

    def test_by_the_words(self):
        source = chance(7)
        answers = {True: 0, False: 0}
        while min(answers.values()) < 50:
            table = source.choice((ASKING, CARELESS)) if source.random() < 0.1 else random_split(source, 3, 2, 2, 6)
            lists = split_met(table)
            every = heaps_over(*lists, 2, 1)
            heaps = [heap for heap in split_bar(table) if source.random() < 0.95] + source.sample(every, min(2, len(every)))
            asked = split_bad_heaps(table) + [back for heap in heaps for back in split_backs(table, heap)]
            expected = all(is_above_one(heaps, heap) for heap in asked)
            answers[expected] += 1
            self.assertIs(self.holds(table, heaps), expected)

    def test_any_number(self):
        for number in (50, BIG):
            more = ((1, 0), ((0, 0, number), (0, 1, number), (2, 1, number)), ((0, 0, number), (1, 0, number)))
            self.assertIs(self.holds(ASKING, split_bar(ASKING) + [more]), True)
            for less in (((0, 1), ((0, 1, number),), ()), ((1, 0), ((0, 0, number),), ()), ((1, 0), (), ((0, 0, number),))):
                self.assertIs(self.holds(ASKING, split_bar(ASKING) + [less]), False)

    def test_moves_stay_behind_the_wall(self):
        """[482]"""
        source = chance(8)
        for table in (ASKING, CARELESS, BOTH, nearby_split(source, ASKING)):
            heaps = split_bar(table)
            for heap in heaps_over(*met_by_words(table), 2, 1):
                if not is_above_one(heaps, heap):
                    for _, behind in steps_from(table, heap):
                        self.assertFalse(is_above_one(heaps, behind))

    def test_lists_stay(self):
        lists = tuple(part[::-1] for part in split_met(ASKING)) + (split_bar(ASKING)[::-1],)
        given = [list(entries) for entries in lists]
        split_heaps_hold(ASKING, *lists)
        are_split_closed(ASKING, *lists[:3])
        is_split_never(ASKING, ("never",) + lists)
        split_shown(ASKING, ("never",) + lists)
        self.assertEqual(list(lists), given)


class NeverTests(unittest.TestCase):
    """[444], [481]"""

    def none(self, table, paper):
        self.assertIs(is_split_never(table, paper), False)
        self.assertIs(is_split_comes(table, paper), False)
        self.assertEqual(split_shown(table, paper), "none")

    def test_known_tables(self):
        for table in (split_msi(), ASKING, NO_SPLIT_ROWS, SPLIT_ALONE):
            paper = split_verdict(table)
            self.assertIs(is_split_never(table, paper), True)
            self.assertIs(is_split_comes(table, paper), False)
            self.assertEqual(split_shown(table, paper), "never")
            mixed = ("never",) + tuple(entries[::-1] + entries[:2] for entries in paper[1:])
            self.assertEqual(split_shown(table, mixed), "never")

    def test_one_thing_wrong(self):
        paper = split_verdict(ASKING)
        for at in range(1, 5):
            for number in range(len(paper[at])):
                self.none(ASKING, changed(paper, at, paper[at][:number] + paper[at][number + 1:]))
        heaps = paper[4]
        for at, (stand, crowd, net) in enumerate(heaps):
            more = [(stand, crowd[:-1] + (crowd[-1][:2] + (crowd[-1][2] + 1,),), net)]
            if net:
                more.append((stand, crowd, net[:-1] + (net[-1][:2] + (net[-1][2] + 1,),)))
            for told in more:
                self.none(ASKING, changed(paper, 4, heaps[:at] + [told] + heaps[at + 1:]))
        for at, wrong in ((1, (2, 0)), (2, (3, 0)), (3, (2, 0)), (4, ((0, 0), (), ((2, 0, 1),)))):
            self.none(ASKING, changed(paper, at, paper[at] + [wrong]))

    def test_beginnings(self):
        """Also the one without caches"""
        word, stands, kinds, notes, heaps = split_verdict(NO_SPLIT_ROWS)
        self.assertEqual((stands, kinds, notes, heaps), ([(0, 1)], [(0, 0)], [], []))
        for crowd in ((), ((0, 0, 1),), ((0, 0, BIG),)):
            self.none(NO_SPLIT_ROWS, (word, stands, kinds, notes, [((0, 1), crowd, ())]))
        noted = (word, stands, kinds, [(0, 0)], [((0, 1), ((0, 0, 1),), ((0, 0, 1),)), ((0, 1), (), ((0, 0, 2),))])
        self.assertIs(is_split_never(NO_SPLIT_ROWS, noted), True)
        more = (word, stands, kinds + [(0, 1)], [], [((0, 1), ((0, 0, 1), (0, 1, 1)), ()), ((0, 1), ((0, 1, 1),), ())])
        self.assertIs(is_split_never(NO_SPLIT_ROWS, more), True)
        other = (word, stands + [(0, 0)], kinds, [], [((0, 0), ((0, 0, 1),), ()), ((0, 0), (), ())])
        self.assertIs(is_split_never(NO_SPLIT_ROWS, other), True)

    def test_walls_of_other_tables(self):
        """What is not coherent has none, though its bar is a wall"""
        for table in (FORGETFUL, SELF, CARELESS, THREE):
            self.assertTrue(split_heaps_hold(table, *split_met(table), split_bar(table)))
            self.none(table, ("never", *split_met(table), split_bar(table)))
            self.none(table, ("never", *split_met(table), [(stand, (), ()) for stand in split_met(table)[0]]))

    def test_other_forms(self):
        word, stands, kinds, notes, heaps = split_verdict(ASKING)
        for paper in ((word, stands, kinds, notes), (word, stands, kinds, heaps), (word, stands, kinds, notes, heaps, []),
                      (word,), ("Never", stands, kinds, notes, heaps), ("", stands, kinds, notes, heaps),
                      ("none", stands, kinds, notes, heaps), (), ("never", [], [], [], [])):
            self.none(ASKING, paper)


class ComesTests(unittest.TestCase):
    """[444], [485]"""

    def none(self, table, paper):
        self.assertIs(is_split_comes(table, paper), False, paper)
        self.assertEqual(split_shown(table, paper), "none")

    def taken(self, table, paper):
        self.assertIs(is_split_comes(table, paper), True, paper)
        self.assertIs(is_split_never(table, paper), False)
        self.assertEqual(split_shown(table, paper), "comes")

    def test_example(self):
        """[485]"""
        self.taken(SELF, ("comes", 1, SELF_MOVES))

    def test_known_tables(self):
        for table in (FORGETFUL, SELF, CARELESS, THREE):
            self.taken(table, split_verdict(table))

    def test_more_caches(self):
        word, count, moves = split_verdict(FORGETFUL)
        for more in (2, 3, 50, BIG):
            self.taken(FORGETFUL, (word, more, moves))
        for less in (1, 0, -1, -BIG):
            self.none(FORGETFUL, (word, less, moves))

    def test_caches_that_make_no_move(self):
        """The one that is brought to a right by others counts, too, whoever makes the row"""
        table = ((0, 1), 1, 1, ((0, -1, -1, 0, -1, (1, 1), (), "keep", "keep"), (0, 0, -1, 0, 0, (1, 1), (), "home", "keep")))
        for count, moves, right in (
            (1, [("row", 0, -1, -1)], True), (0, [("row", 0, -1, -1)], False), (BIG, [("row", 0, -1, -1)], True),
            (1, [("row", 1, 0, -1)], False), (2, [("row", 1, 0, -1)], True), (2, [("row", 1, 1, -1)], True),
            (3, [("row", 1, 1, -1)], True), (BIG, [("row", 1, 7, -1)], True), (8, [("row", 1, 7, -1)], True),
            (7, [("row", 1, 7, -1)], False),
        ):
            (self.taken if right else self.none)(table, ("comes", count, moves))

    def test_caches_of_any_numbers(self):
        """The numbers of those that make moves may be large, too"""
        word, count, moves = split_verdict(FORGETFUL)
        for numbers in ((BIG, 7), (7, BIG), (BIG + 1, BIG), (0, BIG + 3)):
            told = []
            for move in moves:
                at = 2 if move[0] == "row" else 1
                told.append(move if move[at] == -1 else move[:at] + (numbers[move[at]],) + move[at + 1:])
            for many in (max(numbers) + 1, max(numbers) + 2, BIG * BIG):
                self.taken(FORGETFUL, (word, many, told))
            for few in (max(numbers), min(numbers), 2, BIG - 1):
                self.none(FORGETFUL, (word, few, told))
        self.none(SELF, ("comes", BIG, [("row", 0, BIG, -1), ("row", 1, BIG, 0)]))
        self.taken(SELF, ("comes", BIG, [("row", 0, BIG - 1, -1), ("row", 1, BIG - 1, 0)]))
        self.none(SELF, ("comes", BIG, [("row", 0, -2, -1), ("row", 1, -2, 0)]))

    def test_places_are_no_caches(self):
        """The place of a message tells nothing about how many caches there are"""
        moves = [("row", 0, 0, -1)] * 3 + [("row", 1, 0, 2)]
        for count in (1, 2, 9):
            self.taken(SELF, ("comes", count, moves))
        self.none(SELF, ("comes", 0, moves))
        self.none(SELF, ("comes", 1, moves[:3]))
        self.none(SELF, ("comes", 1, moves[:3] + [("row", 1, 0, 3)]))

    def test_values(self):
        """Other values, as long as they differ and are not 0"""
        word, count, moves = split_verdict(CARELESS)
        stores = [at for at, move in enumerate(moves) if move[0] == "store"]
        self.assertEqual(len(stores), 1)
        at = stores[0]
        for value in (1, 7, BIG):
            self.taken(CARELESS, (word, count, moves[:at] + [("store", moves[at][1], value)] + moves[at + 1:]))
        for value in (0, -1, -BIG, "1"):
            self.none(CARELESS, (word, count, moves[:at] + [("store", moves[at][1], value)] + moves[at + 1:]))
        again = [("store", moves[at][1], 5)]
        self.taken(CARELESS, (word, count, moves[:at] + again + [("store", moves[at][1], 6)] + moves[at + 1:]))
        self.none(CARELESS, (word, count, moves[:at] + again + again + moves[at + 1:]))
        self.none(CARELESS, (word, count, moves[:at] + again + [("store", moves[at][1], 6)] + again + moves[at + 1:]))

    def test_loads(self):
        word, count, moves = split_verdict(CARELESS)
        reader = [("load", k) for k in range(count)]
        self.taken(CARELESS, (word, count, moves + reader))
        self.none(CARELESS, (word, count, [("load", 0)] + moves))

    def test_wrong_moves(self):
        word, count, moves = split_verdict(FORGETFUL)
        for at in range(len(moves) + 1):
            for wrong in (("x", 1), (), ("row",), ("store",), ("load",), ("row", 8, -1, 0), ("store", 5, 1), ("row", 0, 9, -1),
                          ("row", 0, "0", -1), ("store", "0", 1), ("load", "1"), ("row", 0, -7, -1)):
                self.none(FORGETFUL, (word, count, moves[:at] + [wrong] + moves[at:]))
        for at in range(len(moves)):
            self.none(FORGETFUL, (word, count, moves[:at] + moves[at + 1:]))

    def test_nothing_bad(self):
        for moves in ([], EXAMPLE, EXAMPLE[:3], EXAMPLE[:4], EXAMPLE + [("row", 8, -1, 0)]):
            self.none(split_msi(), ("comes", 2, moves))
        self.none(SELF, ("comes", 1, []))
        self.none(SELF, ("comes", 1, SELF_MOVES[:1]))

    def test_other_forms(self):
        for paper in (("comes",), ("comes", 1), ("comes", 1, SELF_MOVES, []), ("Comes", 1, SELF_MOVES), ("", 1, SELF_MOVES),
                      ("never", [], SELF_MOVES), ()):
            self.none(SELF, paper)

    def test_by_plays(self):
        """Right exactly if a cache with a right has a copy that is not the last value, of different ones"""
        source = chance(9)
        answers = {True: 0, False: 0}
        while min(answers.values()) < 60:
            table = random_split(source, 3, 2, 2, 7)
            n = source.randint(1, 3)
            moves = random_moves(source, table, n, source.randint(0, 8), (1, 2, 3))
            play = played(table, n, moves)
            values = [move[2] for move in moves if move[0] == "store"]
            last = values[-1] if values else 0
            expected = len(set(values)) == len(values) and any(play.caches[k]["copy"] != last for k in play.rights(1))
            answers[expected] += 1
            self.assertIs(is_split_comes(table, ("comes", n, moves)), expected)


class BothTests(unittest.TestCase):
    """[445], [482], [484]"""

    def test_one_of_both(self):
        source = chance(10)
        words = {"never": 0, "comes": 0}
        for number in range(150):
            table = (random_split(source, 4, 3, 3, 12), nearby_split(source, ASKING), random_split(source, 2, 2, 2, 6))[number % 3]
            paper = split_verdict(table)
            words[paper[0]] += 1
            self.assertEqual(split_shown(table, paper), paper[0])
        self.assertGreater(min(words.values()), 20)

    def test_papers_of_other_tables(self):
        """A paper of a table with a fault is never taken for one without, and the other way round"""
        source = chance(11)
        for _ in range(60):
            one = nearby_split(source, ASKING, 1)
            for paper in (split_verdict(ASKING), split_verdict(one)):
                told = split_shown(one, paper)
                self.assertIn(told, ("none", split_verdict(one)[0]))
                self.assertIn(split_shown(ASKING, paper), ("none", "never"))

    def test_tables_without_partners(self):
        """[484], with papers told over"""
        source = chance(12)
        words = {"never": 0, "comes": 0}
        for _ in range(80):
            table = random_table(source, 4, 2, 10)
            table = (table[0], table[1], tuple(row for row in table[2] if row[2] == -1))
            split = split_of(table)
            paper, other = verdict(table), split_verdict(split)
            words[paper[0]] += 1
            self.assertEqual(paper[0], other[0])
            if paper[0] == "never":
                told = paper[:3] + ([], [heap + ((),) for heap in paper[3]])
                back = other[:3] + ([heap[:2] for heap in other[4]],)
                self.assertTrue(is_never(table, back) and is_split_never(split, told))
                self.assertEqual(shown(table, back), split_shown(split, told))
                for at in range(1, len(paper[3])):
                    less = [heap for number, heap in enumerate(paper[3]) if number != at]
                    told = paper[1:3] + ([], [heap + ((),) for heap in less])
                    self.assertIs(split_heaps_hold(split, *told), wall_holds(table, *paper[1:3], less))
            else:
                self.assertTrue(is_comes(table, other) and is_split_comes(split, paper))
            stands, kinds = met_stands(table), met_kinds(table)
            for lists in ((stands, kinds), (stands[1:], kinds), (stands, kinds[1:]), (stands, kinds[:-1])):
                self.assertIs(are_split_closed(split, *lists, []), are_closed(table, *lists))
        self.assertGreater(min(words.values()), 10)


class CaseTests(unittest.TestCase):
    """[483]"""

    def test_runs(self):
        source = chance(13)
        for number in range(100):
            table = (split_msi(), ASKING, BOTH, random_split(source, 4, 2, 3, 10))[number % 4]
            program = orders.random_program(source, most_instructions=4)
            moves = random_machine_moves(source, table, program, source.randint(0, 40))
            kept = list(moves)
            machine = machine_behind(table, program, moves)
            self.assertEqual(split_machine_led_to(table, program, moves), machine.seen())
            self.assertEqual(moves, kept)
            told = [(word, c) for word in ("make", "drain") for c in range(-1, len(program) + 1)]
            told += [("row", source.randint(0, 4), source.randint(0, 9), source.randint(-1, len(program)), source.randint(-1, 2))
                     for _ in range(10)]
            for move in told:
                more = machine_behind(table, program, moves + [move])
                expected = None if isinstance(more, int) else more.seen()
                self.assertEqual(split_machine_led_to(table, program, moves + [move]), expected)

    def test_moves_that_are_none(self):
        right = [("row", 0, 3, 0, -1), ("row", 0, 4, -1, 0), ("row", 0, 5, 0, 0), ("make", 0), ("make", 1)]
        self.assertEqual(split_machine_led_to(split_msi(), orders.STORES, right), ((1, ()), (1, ())))
        for move in (("make", 2), ("make", -1), ("make", 0, 0), ("drain", 2), ("drain", 0, 0), ("stay", 0), ("make",), (),
                     ("row", 3, 0, -1), ("row", 4, 3, 0, -1), ("row", -1, 3, 0, -1), ("row", 0, 9, 0, -1), ("row", 1, 3, 0, 0),
                     ("row", 1, 4, -1, 0), ("load", 0), ("store", 0, 1), ("row", 1, 3, 0, -1, 0), ("rows", 1, 3, 0, -1),
                     ("row", "1", 3, 0, -1), ("make", "0")):
            for at in range(len(right) + 1):
                self.assertIsNone(split_machine_led_to(split_msi(), orders.STORES, right[:at] + [move] + right[at:]), move)
                self.assertIs(split_case_holds(split_msi(), orders.STORES, right[:at] + [move], ("nothing", (), 0)), False)

    def test_made_programs(self):
        source = chance(14)
        words = {}
        for number in range(150):
            table = (nearby_split(source, ASKING, 2), random_split(source, 3, 2, 2, 7), CARELESS)[number % 3]
            try:
                made = split_made_program(table)
            except NoAnswer:
                continue
            if made is None:
                continue
            program, moves, proof = made
            words[proof[0]] = words.get(proof[0], 0) + 1
            self.assertIs(split_case_holds(table, program, moves, proof), True)
            self.assertIs(is_split_never(table, split_verdict(table)), False)
            self.assertIs(split_case_holds(table, program, moves[:-1], proof), False)
            self.assertIs(split_case_holds(table, program, moves + [("make", 0)] * 9, proof), False)
            self.assertIs(split_case_holds(ASKING, program, moves, proof), False)
        self.assertGreater(len(words), 1)

    def test_each_word(self):
        for table, word in ((SELF, "nothing"), (split_of(machines.BEHIND), "behind"), (FORGETFUL, "flag")):
            program, moves, proof = split_made_program(table)
            self.assertEqual(proof[0], word)
            for at in range(len(moves)):
                self.assertIs(split_case_holds(table, program, moves[:at] + [("jump", 0)] + moves[at:], proof), False)
            for other in ("nothing", "behind", "flag", "", "Flag"):
                self.assertIs(split_case_holds(table, program, moves, (other,) + proof[1:]), other == word)
            for reader in (-1, len(program), BIG):
                self.assertIs(split_case_holds(table, program, moves, proof[:2] + (reader,)), False)
            for told in ((), proof[:2], proof + (0,)):
                self.assertIs(split_case_holds(table, program, moves, told), False)

    def test_proofs_by_the_words(self):
        """Right exactly if the sight has a right proof, with all proofs that there could be"""
        source = chance(15)
        answers = {True: 0, False: 0}
        for number in range(400):
            table = (CARELESS, FORGETFUL, SELF, split_of(machines.BEHIND))[number % 4]
            program = source.choice((proofs_told.BEHIND_PROGRAM, (
                (("swap", 0, 5), ("store", 1, 3), ("load", 0)), (("load", 1), ("load", 0)))))
            moves = random_machine_moves(source, table, program, 80)
            seen = machine_behind(table, program, moves).seen()
            for word in ("nothing", "behind", "flag"):
                for chain in ((), ((0, 0),), ((0, 0), (1, 2)), ((1, 2), (0, 0))):
                    for reader in (0, 1):
                        expected = proofs_told.is_right(program, seen, (word, chain, reader))
                        answers[expected] += 1
                        self.assertIs(split_case_holds(table, program, moves, (word, chain, reader)), expected)
        self.assertGreater(min(answers.values()), 20)

    def test_without_partners(self):
        """A case against a table is one against its split table"""
        source = chance(16)
        asked = 0
        while asked < 25:
            table = random_table(source, 3, 2, 6)
            table = (table[0], table[1], tuple(row for row in table[2] if row[2] == -1))
            try:
                made = made_program(table)
            except NoAnswer:
                continue
            if made is not None:
                asked += 1
                self.assertIs(split_case_holds(split_of(table), *made), True)

    def test_lists_stay(self):
        program, moves, proof = split_made_program(FORGETFUL)
        kept = list(moves)
        split_case_holds(FORGETFUL, program, moves, proof)
        self.assertEqual(moves, kept)


if __name__ == "__main__":
    unittest.main()
