"""Coherent split tables, bad and passing runs, and papers, [440] to [446]"""

import unittest

from coheir.coherence import bad_run, fewest_caches, is_coherent, passes, passing_run
from coheir.errors import NoAnswer, NotTable, TooLarge
from coheir.papers import verdict
from coheir.samples import msi
from coheir.splitbacks import split_met
from coheir.splitbars import split_bar
from coheir.splitcoherence import is_split_coherent, split_bad_run, split_fewest, split_passes, split_passing_run
from coheir.splitghosts import split_start
from coheir.splitpapers import split_verdict
from coheir.splitplay import split_play
from coheir.splitsamples import split_forgetful, split_msi
from coheir.splittables import split_of, split_without
from splits import (
    ASKING, BOTH, CARELESS, NO_SPLIT_ROWS, ONE_MORE, SELF, SPLIT_ALONE, TOO_WIDE_SPLIT, TWENTY_THOUSAND, WIDE_SPLIT, Play,
    is_below_by_words, nearby_split, passing_search, passing_states, with_one_store, random_split, shortest_bad,
)
from support import ALONE, NO_ROWS, SMALL, chance, random_table

WRONG = ((1,), 1, 1, ())
FORGETFUL = split_forgetful(split_msi(), 4)
# The first cache sends its state on, message by message: three caches are needed for a right without a copy.
THREE = ((0, 0, 0, 1), 3, 2, (
    (0, 0, -1, 1, 1, (0, 1, 2, 3), ((0, "own"),), "keep", "keep"),
    (1, 0, 0, 2, 1, (0, 1, 2, 3), ((1, "got"),), "keep", "keep"),
    (2, 0, 1, 2, 3, (0, 1, 2, 3), (), "got", "keep"),
))
# One cache writes and sends its copy, and another one may take it and read; four messages are needed ahead of that.
FOUR_MESSAGES = ((0, 2, 1), 6, 2, tuple(
    [(home, 1, -1, home + 1, 1, (0, 1, 2), ((0, "own"),), "keep", "keep") for home in range(4)]
    + [(-1, 0, -1, -1, 1, (0, 1, 2), (), "keep", "keep"), (4, 0, 0, 4, 2, (0, 1, 2), (), "got", "keep")]
))
FIVE_MESSAGES = FOUR_MESSAGES[:3] + tuple([tuple(
    [(home, 1, -1, home + 1, 1, (0, 1, 2), ((0, "own"),), "keep", "keep") for home in range(5)]
    + [(-1, 0, -1, -1, 1, (0, 1, 2), (), "keep", "keep"), (5, 0, 0, 5, 2, (0, 1, 2), (), "got", "keep")]
)])
# A passing run is short, and many messages may be under way beside it.
PASSING_AND_LARGE = ((0, 2), 1, 8, tuple(
    [(0, 0, -1, 0, 1, (0, 1), (), "home", "keep"), (0, 1, -1, 0, 0, (0, 1), (), "keep", "own")]
    + [(0, -1, -1, 0, -1, (0, 1), ((kind, "home"),), "keep", "keep") for kind in range(8)]
))


def some_tables(source, many):
    """Return split tables of several kinds, coherent and others."""
    found = [ASKING, CARELESS, SELF, BOTH, NO_SPLIT_ROWS, SPLIT_ALONE, THREE, FORGETFUL]
    for _ in range(many):
        found.append(nearby_split(source, ASKING, source.randint(1, 2)))
        found.append(random_split(source, 3, 2, 2, 7))
    return found


class CoherenceTests(unittest.TestCase):
    """[440], [441]"""

    def test_known_ones(self):
        for table in (split_msi(), ASKING, NO_SPLIT_ROWS, SPLIT_ALONE):
            self.assertIs(is_split_coherent(table), True)
            self.assertIsNone(split_fewest(table))
        for table, count in ((SELF, 1), (FORGETFUL, 2), (CARELESS, 2), (THREE, 3)):
            self.assertIs(is_split_coherent(table), False)
            self.assertEqual(split_fewest(table), count)

    def test_forgetful(self):
        """Of the known one, each row that does not tell the other caches"""
        told = [is_split_coherent(split_forgetful(split_msi(), number)) for number in range(9)]
        self.assertEqual(told, [True] * 4 + [False] + [True] * 4)

    def test_by_the_bar(self):
        source = chance(1)
        for table in some_tables(source, 40):
            starts = [heap[1][0][2] for heap in split_bar(table)
                      if heap[0] == (0, 1) and not heap[2] and [entry[:2] for entry in heap[1]] == [(0, 0)]]
            self.assertEqual(split_fewest(table), min(starts) if starts else None)
            self.assertIs(is_split_coherent(table), not starts)

    def test_by_plays(self):
        """The fewest caches, and the number of moves, by a search through plays"""
        source = chance(2)
        lengths = []
        for table in some_tables(source, 60):
            count = split_fewest(table)
            if count is None:
                for n in (1, 2):
                    self.assertIsNone(shortest_bad(table, n, 5))
                continue
            moves = split_bad_run(table)
            if len(moves) < 9:
                lengths.append(len(moves))
                self.assertEqual(shortest_bad(table, count, len(moves)), len(moves))
                self.assertIsNone(shortest_bad(table, count - 1, min(6, len(moves) + 1)))
        self.assertGreater(len(lengths), 20)
        self.assertGreater(len([length for length in lengths if length > 2]), 5)

    def test_loads_of_coherent_tables(self):
        source = chance(3)
        loads = 0
        for table in [split_msi(), ASKING] * 10:
            play, last, value = Play(table, 3), 0, 0
            for _ in range(80):
                moves = play.rows() + [("store", k, value + 1) for k in play.rights(2)]
                if len(play.net) > 5:
                    moves = [move for move in moves if move[0] == "row" and move[3] != -1] or moves
                if not moves:
                    break
                move = source.choice(moves)
                play.step(move)
                if move[0] == "store":
                    value += 1
                    last = value
                for k in play.rights(1):
                    loads += 1
                    self.assertEqual(play.caches[k]["copy"], last)
        self.assertGreater(loads, 300)

    def test_without_a_row(self):
        """A coherent split table stays coherent"""
        for table in (split_msi(), ASKING):
            for number in range(len(table[3])):
                self.assertIs(is_split_coherent(split_without(table, [number])), True)


class BadRunTests(unittest.TestCase):
    """[442]"""

    def check(self, table):
        moves, count = split_bad_run(table), split_fewest(table)
        self.assertEqual({move[0] for move in moves} - {"row", "store"}, set())
        values = [move[2] for move in moves if move[0] == "store"]
        self.assertEqual(values, list(range(1, len(values) + 1)))
        for at in range(len(moves) + 1):
            state = split_play(table, count, moves[:at])
            last = len([move for move in moves[:at] if move[0] == "store"])
            old = [copy for s, copy in state[2] if table[0][s] > 0 and copy != last]
            self.assertEqual(bool(old), at == len(moves))

    def test_bad_runs(self):
        source = chance(4)
        asked = 0
        for table in some_tables(source, 80):
            if not is_split_coherent(table):
                asked += 1
                self.check(table)
        self.assertGreater(asked, 40)
        self.assertEqual(len(split_bad_run(FORGETFUL)), 7)
        self.assertEqual(split_bad_run(SELF), [("row", 0, 0, -1), ("row", 1, 0, 0)])

    def test_coherent_ones(self):
        for table in (split_msi(), ASKING, NO_SPLIT_ROWS):
            with self.assertRaises(NoAnswer):
                split_bad_run(table)

    def test_errors(self):
        for function in (is_split_coherent, split_fewest, split_bad_run, split_verdict):
            for table in (WRONG, msi(), ()):
                with self.assertRaises(NotTable):
                    function(table)
            with self.assertRaises(TooLarge):
                function(TOO_WIDE_SPLIT)
        self.assertEqual(split_fewest(WIDE_SPLIT), 1)

    def test_new_lists(self):
        first = split_bad_run(FORGETFUL)
        first.clear()
        self.assertEqual(len(split_bad_run(FORGETFUL)), 7)


class PassingTests(unittest.TestCase):
    """[443]"""

    def check(self, table):
        """Look at each thing that the point asks of a passing run"""
        moves = split_passing_run(table)
        play = Play(table, 2)
        for move in moves:
            self.assertLessEqual(len(play.net), 4)
            if move == ("load", 1):
                self.assertEqual(play.caches[1]["copy"], 1)
            self.assertTrue(play.step(move))
        self.assertEqual([move for move in moves if move[0] == "store"], [("store", 0, 1)])
        self.assertEqual(moves[-1], ("load", 1))
        return len(moves)

    def test_known_ones(self):
        self.assertIs(split_passes(split_msi()), True)
        self.assertEqual(self.check(split_msi()), 10)
        self.assertEqual(self.check(ASKING), 9)
        for table in (NO_SPLIT_ROWS, SPLIT_ALONE, SELF, CARELESS):
            self.assertIs(split_passes(table), False)
            with self.assertRaises(NoAnswer):
                split_passing_run(table)

    def test_by_plays(self):
        source = chance(5)
        passed = 0
        for number in range(120):
            table = nearby_split(source, ASKING, 2) if number % 2 else random_split(source, 3, 2, 2, 8)
            count, shortest = passing_search(table)
            self.assertIs(split_passes(table), shortest is not None)
            if shortest is not None:
                passed += 1
                self.assertEqual(self.check(table), shortest)
        self.assertGreater(passed, 10)

    def test_four_messages(self):
        """Four under way are enough; where five would be needed, nothing passes"""
        self.assertEqual(self.check(FOUR_MESSAGES), 8)
        self.assertIs(split_passes(FIVE_MESSAGES), False)
        self.assertIsNone(passing_search(FIVE_MESSAGES)[1])

    def test_no_end_of_messages(self):
        """More and more messages may come, but never more than four are looked at"""
        table = ((0, 2), 1, 1, ((0, -1, -1, 0, -1, (0, 1), ((0, "home"), (0, "home")), "keep", "keep"),))
        self.assertEqual(passing_search(table), (3, None))
        self.assertIs(split_passes(table), False)

    def test_too_large(self):
        """Exactly if more than 20,000 states come, each with the number of its stores"""
        self.assertEqual(passing_search(TWENTY_THOUSAND)[0], 20000)
        self.assertEqual(passing_search(ONE_MORE)[0], 20001)
        self.assertIs(split_passes(TWENTY_THOUSAND), False)
        with self.assertRaises(NoAnswer):
            split_passing_run(TWENTY_THOUSAND)
        for function in (split_passes, split_passing_run):
            with self.assertRaises(TooLarge):
                function(ONE_MORE)

    def test_too_large_behind_a_run(self):
        """Also where a passing run is found early"""
        short = PASSING_AND_LARGE[:3] + (PASSING_AND_LARGE[3][:3],)
        self.assertEqual(self.check(short), 5)
        for function in (split_passes, split_passing_run):
            with self.assertRaises(TooLarge):
                function(PASSING_AND_LARGE)

    def test_states_with_their_stores(self):
        """One state without and with a store behind it counts twice: a stored copy can be lost again"""
        same = (0, 1, 2, 3)
        rows = [(0, 0, -1, 0, state, same, (), "home", "keep") for state in (1, 2, 3)]
        rows += [(0, 1, -1, 0, 0, same, (), "home", "keep")]
        rows += [(0, -1, -1, 0, -1, same, ((kind, "home"),), "keep", "keep") for kind in range(8)]
        found = passing_states(((0, 2, 0, 0), 1, 8, tuple(rows)))
        self.assertEqual((len(found), len({state for state, _ in found})), (24750, 14850))
        with self.assertRaises(TooLarge):
            split_passes(((0, 2, 0, 0), 1, 8, tuple(rows)))
        self.assertEqual(len(passing_states(((0, 2, 0, 0), 1, 8, tuple(rows[:-2])))), 10500)
        self.assertIs(split_passes(((0, 2, 0, 0), 1, 8, tuple(rows[:-2]))), False)

    def test_one_store_alone(self):
        """More stores would lead to more than 20,000 states here"""
        table = with_one_store()
        self.assertEqual(len(passing_states(table)), 20000)
        self.assertIs(split_passes(table), False)

    def test_without_the_right(self):
        """The cache 1 comes to the stored copy, but may not load it; the cache 0 may still"""
        rows = ((0, 0, -1, 1, 1, (0, 1, 2), (), "home", "keep"), (1, 1, -1, 2, 1, (0, 1, 2), (), "keep", "own"),
                (2, 0, -1, 2, 2, (0, 1, 2), (), "home", "keep"))
        self.assertIs(split_passes(((0, 2, 0), 3, 1, rows)), False)
        self.assertEqual(self.check(((0, 2, 1), 3, 1, rows)), 5)

    def test_errors(self):
        for function in (split_passes, split_passing_run):
            for table in (WRONG, msi(), ()):
                with self.assertRaises(NotTable):
                    function(table)

    def test_new_lists(self):
        split_passing_run(ASKING).clear()
        self.assertEqual(len(split_passing_run(ASKING)), 9)


class PaperTests(unittest.TestCase):
    """[444], [445]"""

    def test_coherent_ones(self):
        for table in (split_msi(), ASKING, NO_SPLIT_ROWS, SPLIT_ALONE):
            self.assertEqual(split_verdict(table), ("never", *split_met(table), split_bar(table)))

    def test_others(self):
        for table in (FORGETFUL, SELF, CARELESS, THREE):
            word, count, moves = split_verdict(table)
            self.assertEqual((word, count, len(moves)), ("comes", split_fewest(table), len(split_bad_run(table))))
            state = split_play(table, count, moves)
            stores = [move[2] for move in moves if move[0] == "store"]
            self.assertTrue(any(table[0][s] > 0 and copy != (stores or [0])[-1] for s, copy in state[2]))

    def test_new_lists(self):
        for part in split_verdict(ASKING)[1:]:
            part.clear()
        self.assertEqual([len(part) for part in split_verdict(ASKING)[1:]], [4, 4, 4, 32])
        split_verdict(FORGETFUL)[2].clear()
        self.assertEqual(len(split_verdict(FORGETFUL)[2]), 7)


class AlikeTests(unittest.TestCase):
    """[446]"""

    def test_without_messages(self):
        source = chance(6)
        words = {"never": 0, "comes": 0}
        tables = [SMALL, NO_ROWS, ALONE] + [random_table(source, 4, 2, 12) for _ in range(100)]
        for table in tables:
            table = (table[0], table[1], tuple(row for row in table[2] if row[2] == -1))
            split = split_of(table)
            self.assertIs(is_split_coherent(split), is_coherent(table))
            self.assertEqual(split_fewest(split), fewest_caches(table))
            self.assertIs(split_passes(split), passes(table))
            if passes(table):
                self.assertEqual(len(split_passing_run(split)), len(passing_run(table)))
            paper, other = split_verdict(split), verdict(table)
            words[paper[0]] += 1
            self.assertEqual(paper[0], other[0])
            if paper[0] == "never":
                self.assertEqual(paper, other[:3] + ([], [heap + ((),) for heap in other[3]]))
            else:
                self.assertEqual((paper[1], len(paper[2])), (other[1], len(other[2])))
                self.assertEqual(len(split_bad_run(split)), len(bad_run(table)))
        self.assertGreater(min(words.values()), 10)

    def test_starts_are_above_the_bar(self):
        """[440]: with the fewest caches and with more, with fewer never"""
        for table in (FORGETFUL, SELF, CARELESS, THREE):
            heaps = split_bar(table)
            for n in range(6):
                above = any(is_below_by_words(one, split_start(table, n)) for one in heaps)
                self.assertIs(above, n >= split_fewest(table))


if __name__ == "__main__":
    unittest.main()
