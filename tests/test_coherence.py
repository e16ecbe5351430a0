import unittest

from coheir.coherence import bad_run, fewest_caches, is_coherent, passes, passing_run
from coheir.errors import NoAnswer, NotTable, TooLarge
from coheir.lineplay import line_begin, line_behind, loads_on, moves_in, states_on
from coheir.samples import forgetful, mesi, mosi, msi
from coheir.tables import renamed, with_row, without_rows
from support import ALONE, NO_ROWS, SMALL, TOO_WIDE, chance, nearby_table, random_table
from test_lineplay import random_play

WRONG = ((1,), 1, ())

# The cache comes to a state with the right 1, without any copy.
EMPTY_COPY = ((0, 1), 1, ((0, 0, -1, 0, 1, -1, (0, 1), "keep", "keep"),))


def is_wrong(table, state, last):
    """Tell whether a cache with a right has another value than the last stored one."""
    return any(table[0][at] > 0 and copy != last for at, copy in state[2])


def fewest_moves(table, n, most):
    """Return the least number of moves, of so many at the most, to a wrong value with n caches."""
    latest, seen = {(line_begin(n), 0)}, set()
    for moves in range(most + 1):
        if any(is_wrong(table, state, last) for state, last in latest):
            return moves
        seen |= latest
        behind = set()
        for state, last in latest:
            for move in moves_in(table, state):
                behind.add((line_behind(table, state, move), last))
            for k, (at, _) in enumerate(state[2]):
                if table[0][at] == 2:
                    behind.add((line_behind(table, state, ("store", k, last + 1)), last + 1))
        latest = behind - seen
    return None


def fewest_to_pass(table, most):
    """Return the least number of moves, of so many at the most, to the load of a passing run."""
    latest, seen = {(line_begin(2), False)}, set()
    for moves in range(1, most + 1):
        behind = set()
        for state, stored in latest:
            for move in moves_in(table, state) + ([] if stored else [("store", 0, 1)]):
                if move == ("load", 1) and state[2][1][1] == 1:
                    return moves
                told = line_behind(table, state, move)
                if told is not None:
                    behind.add((told, stored or move[0] == "store"))
        seen |= latest
        latest = behind - seen
    return None


class CoherenceTests(unittest.TestCase):
    """[55], [104], [105]"""

    def test_known_tables(self):
        for table in (msi(), mesi(), mosi(), NO_ROWS, ALONE):
            self.assertIs(is_coherent(table), True)
            self.assertIsNone(fewest_caches(table))

    def test_forgetful_tables(self):
        for table in (forgetful(msi(), 2), forgetful(msi(), 4), forgetful(mosi(), 3), forgetful(mesi(), 5)):
            self.assertIs(is_coherent(table), False)
            self.assertEqual(fewest_caches(table), 2)

    def test_one_cache(self):
        self.assertEqual(fewest_caches(EMPTY_COPY), 1)
        self.assertEqual(bad_run(EMPTY_COPY), [("row", 0, 0, -1)])

    def test_several_caches(self):
        # Each row wants a partner in the state to which the row ahead of it brought one.
        rows = (
            (0, 0, 0, 0, 1, 0, (0, 1, 2, 3), "home", "keep"),
            (0, 0, 1, 0, 2, 1, (0, 1, 2, 3), "home", "keep"),
            (0, 1, 2, 0, 3, 1, (0, 1, 2, 3), "keep", "keep"),
        )
        table = ((0, 0, 0, 1), 1, rows + ((0, 0, 3, 0, 3, 3, (0, 1, 2, 3), "keep", "keep"),))
        self.assertEqual(fewest_caches(table), 3)
        self.assertEqual(len(bad_run(table)), 4)

    def test_plays_of_coherent_tables(self):
        source = chance(41)
        for known in (msi(), mesi(), mosi()):
            self.plays_tell_the_last_value(known, source)
            found = 0
            while found < 5:
                table = nearby_table(source, known, 2)
                if is_coherent(table):
                    found += 1
                    self.plays_tell_the_last_value(table, source)

    def plays_tell_the_last_value(self, table, source):
        for n in (1, 2, 4):
            moves, _ = random_play(source, table, n, 60, (1, 2, 3))
            for at, _, value in loads_on(table, n, moves):
                stores = [move[2] for move in moves[:at] if move[0] == "store"]
                self.assertEqual(value, stores[-1] if stores else 0)

    def test_too_large(self):
        for function in (is_coherent, fewest_caches, bad_run):
            with self.assertRaises(TooLarge):
                function(TOO_WIDE)
        self.assertIs(passes(TOO_WIDE), fewest_to_pass(TOO_WIDE, 60) is not None)

    def test_no_table(self):
        for function in (is_coherent, fewest_caches, bad_run, passes, passing_run):
            with self.assertRaises(NotTable):
                function(WRONG)


class BadRunTests(unittest.TestCase):
    """[105], [106]"""

    def check(self, table):
        n, moves = fewest_caches(table), bad_run(table)
        states = states_on(table, n, moves)
        stores = [move[2] for move in moves if move[0] == "store"]
        self.assertEqual(stores, list(range(1, len(stores) + 1)))
        self.assertNotIn("load", [move[0] for move in moves])
        self.assertTrue(is_wrong(table, states[-1], len(stores)))
        last = 0
        for state, move in zip(states, moves):
            self.assertFalse(is_wrong(table, state, last))
            last = move[2] if move[0] == "store" else last
        if len(moves) <= 5 and n <= 3:
            self.assertEqual(fewest_moves(table, n, len(moves)), len(moves))
            if n > 1:
                self.assertIsNone(fewest_moves(table, n - 1, 6))

    def test_forgetful_tables(self):
        for table, rows in ((msi(), (2, 4)), (mesi(), (5, 6)), (mosi(), (3, 4, 5, 6, 7, 8))):
            for number in rows:
                if not is_coherent(forgetful(table, number)):
                    self.check(forgetful(table, number))

    def test_made_by_chance(self):
        source = chance(42)
        found = 0
        while found < 40:
            table = random_table(source, 4, 3, 10)
            if not is_coherent(table):
                found += 1
                self.check(table)

    def test_coherent(self):
        for table in (msi(), mesi(), mosi(), NO_ROWS):
            with self.assertRaises(NoAnswer):
                bad_run(table)


class PassTests(unittest.TestCase):
    """[107], [108]"""

    def test_known_tables(self):
        for table in (msi(), mesi(), mosi(), SMALL, forgetful(msi(), 4)):
            self.assertIs(passes(table), True)
            self.check(table)
        self.assertEqual(len(passing_run(msi())), 4)

    def test_no_pass(self):
        one_way = without_rows(msi(), [1, 3, 6])
        for table in (NO_ROWS, ALONE, EMPTY_COPY, one_way):
            self.assertIs(passes(table), False)
            with self.assertRaises(NoAnswer):
                passing_run(table)

    def test_made_by_chance(self):
        source = chance(43)
        answers = {True: 0, False: 0}
        while min(answers.values()) < 25:
            table = random_table(source, 4, 3, 12)
            expected = fewest_to_pass(table, 40)
            answers[expected is not None] += 1
            self.assertIs(passes(table), expected is not None)
            if expected is not None:
                self.assertEqual(len(passing_run(table)), expected)
                self.check(table)

    def check(self, table):
        moves = passing_run(table)
        self.assertEqual([move for move in moves if move[0] == "store"], [("store", 0, 1)])
        self.assertEqual(moves[-1], ("load", 1))
        for n in (2, 5):
            self.assertEqual(loads_on(table, n, moves)[-1], (len(moves) - 1, 1, 1))

    def test_lists_are_new(self):
        for function, table in ((bad_run, forgetful(msi(), 4)), (passing_run, msi())):
            first = function(table)
            expected = list(first)
            first.clear()
            self.assertEqual(function(table), expected)


class ChangeTests(unittest.TestCase):
    """[108], [109]"""

    def test_without_a_row(self):
        for table in (msi(), mesi(), mosi()):
            for number in range(len(table[2])):
                self.assertTrue(is_coherent(without_rows(table, [number])))

    def test_more_rows(self):
        source = chance(44)
        for _ in range(40):
            table = random_table(source, 4, 2, 10)
            few = without_rows(table, list(range(0, len(table[2]), 3)))
            if not is_coherent(few):
                self.assertLessEqual(fewest_caches(table), fewest_caches(few))
            if passes(few):
                self.assertTrue(passes(table))

    def test_other_numbers(self):
        source = chance(45)
        for table in [msi(), forgetful(mosi(), 3)] + [random_table(source, 4, 3, 10) for _ in range(30)]:
            states = [0] + source.sample(range(1, len(table[0])), len(table[0]) - 1)
            homes = [0] + source.sample(range(1, table[1]), table[1] - 1)
            other = renamed(table, tuple(states), tuple(homes))
            self.assertEqual(fewest_caches(other), fewest_caches(table))
            self.assertEqual(passes(other), passes(table))

    def test_a_row_that_forgets(self):
        row = (0, 0, -1, 1, 2, -1, (0, 1, 2), "home", "keep")
        self.assertEqual(fewest_caches(with_row(msi(), row)), 2)


if __name__ == "__main__":
    unittest.main()
