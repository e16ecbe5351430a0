"""Rows that are needed, and rows that are too many, [320] to [324]"""

import itertools
import unittest

from coheir.bars import bar
from coheir.coherence import is_coherent, passes
from coheir.errors import BadNumber, NotTable, TooLarge
from coheir.rowsets import greatest_safe, least_passing, mends, with_rows
from coheir.samples import forgetful, mesi, mosi, msi
from coheir.tables import with_row
from support import ALONE, NO_ROWS, SMALL, TOO_WIDE, chance, nearby_table, random_table

NO_TABLES = ((), ((1,), 1, ()), ((0,), 7, ()))
OLD = (0, 0, -1, 0, 1, -1, (0, 1, 2), "keep", "keep")  # a cache may read what it does not have


def parts(rows):
    return [set(part) for size in range(len(rows) + 1) for part in itertools.combinations(sorted(rows), size)]


def cut(table, out):
    return (table[0], table[1], tuple(row for number, row in enumerate(table[2]) if number not in out))


def told(sets):
    return sorted(tuple(sorted(part)) for part in sets)


def searched(table, rows):
    """Return the least passing sets, the greatest safe ones and the mends, by a look at all pairs of sets."""
    every = parts(rows)
    passing = [part for part in every if passes(cut(table, set(rows) - part))]
    safe = [part for part in every if is_coherent(cut(table, set(rows) - part))]
    good_without = [set(rows) - part for part in every if part in passing and part in safe]
    return (told(part for part in passing if not any(less < part for less in passing)),
            told(part for part in safe if not any(part < more for more in safe)),
            told(out for out in good_without if not any(less < out for less in good_without)))


class WithTests(unittest.TestCase):
    def test_with_rows(self):
        """[320]: in their order, whatever the order of the list, any number of rows"""
        rights, homes, rows = msi()
        self.assertEqual(with_rows(msi(), [5, 0, 3]), (rights, homes, (rows[0], rows[3], rows[5])))
        self.assertEqual(with_rows(msi(), []), (rights, homes, ()))
        self.assertEqual(with_rows(msi(), [6, 5, 4, 3, 2, 1, 0]), msi())
        self.assertEqual(with_rows(mesi(), list(range(13))), mesi())
        self.assertEqual(with_rows(NO_ROWS, []), NO_ROWS)
        numbers = [4, 2]
        with_rows(msi(), numbers)
        self.assertEqual(numbers, [4, 2])


class SetTests(unittest.TestCase):
    def check(self, table, rows):
        kept = list(rows)
        found = (least_passing(table, rows), greatest_safe(table, rows), mends(table, rows))
        self.assertEqual(rows, kept)
        self.assertEqual(found, searched(table, rows))
        return found

    def test_example(self):
        """[324]: all rows together are good"""
        for rows in itertools.combinations(range(7), 6):
            self.assertEqual(mends(msi(), list(rows)), [()])
            self.assertEqual(greatest_safe(msi(), list(rows)), [rows])
        self.assertEqual(mends(msi(), []), [()])

    def test_samples(self):
        source = chance(1)
        for table in (msi(), mesi(), mosi()):
            for _ in range(3):
                self.check(table, source.sample(range(len(table[2])), 4))
        self.assertEqual(self.check(msi(), [6, 3, 1, 4]), ([(1,), (3,), (6,)], [(1, 3, 4, 6)], [()]))

    def test_no_rows(self):
        """The one set without rows"""
        self.assertEqual(self.check(msi(), []), ([()], [()], [()]))
        self.assertEqual(self.check(NO_ROWS, []), ([], [()], []))
        self.assertEqual(self.check(ALONE, []), ([], [()], []))
        bad = forgetful(msi(), 4)
        self.assertEqual(self.check(bad, []), ([()], [], []))
        self.assertEqual(self.check(SMALL, []), searched(SMALL, []))

    def test_mends_of_faults(self):
        """Rows that are too many"""
        table = forgetful(msi(), 4)
        self.assertEqual(self.check(table, [4, 0, 2]), ([(0, 4), (2,)], [(0, 2), (4,)], [(4,)]))
        both = with_row(with_row(table, OLD), OLD)
        self.assertEqual(mends(both, [8, 4, 7]), [(4, 7, 8)])
        self.assertEqual(mends(both, [8, 4]), [])
        self.assertEqual(greatest_safe(both, [8, 4]), [])

    def test_several_mends(self):
        """A fault that two rows make together: each of them may be taken out"""
        rights, homes, rows = msi()
        wider = tuple(row[:6] + (row[6] + (3,),) + row[7:] for row in rows)
        two = ((0, 0, -1, 0, 3, -1, (0, 1, 2, 3), "keep", "keep"), (0, 3, -1, 0, 1, -1, (0, 1, 2, 3), "keep", "keep"))
        table = (rights + (0,), homes, wider + two)
        self.assertEqual(mends(table, [8, 7]), [(7,), (8,)])
        self.assertEqual(self.check(table, [7, 1, 8, 3]), ([()], [(1, 3, 7), (1, 3, 8)], [(7,), (8,)]))

    def test_nearby(self):
        source = chance(2)
        for _ in range(40):
            table = nearby_table(source, source.choice((msi(), mosi())), 2)
            self.check(table, source.sample(range(len(table[2])), source.randint(1, 4)))

    def test_chance(self):
        source = chance(3)
        for _ in range(60):
            table = random_table(source, most_states=3, most_homes=2, most_rows=8)
            self.check(table, source.sample(range(len(table[2])), min(len(table[2]), source.randint(0, 4))))

    def test_good_sets(self):
        """[323]: there is one exactly if some least passing set is safe, and exactly if some greatest safe one passes"""
        source = chance(4)
        for _ in range(25):
            table = nearby_table(source, source.choice((msi(), mosi())), 3)
            rows = source.sample(range(len(table[2])), 4)
            passing, safe, mending = least_passing(table, rows), greatest_safe(table, rows), mends(table, rows)
            self.assertEqual(bool(mending), any(set(one) <= set(other) for one in passing for other in safe))

    def test_six_and_seven(self):
        rows = [0, 1, 2, 3, 4, 5]
        self.check(forgetful(msi(), 2), rows)
        for function in (least_passing, greatest_safe, mends):
            with self.assertRaises(TooLarge):
                function(msi(), rows + [6])
            with self.assertRaises(BadNumber):
                function(msi(), rows + [0])
            with self.assertRaises(BadNumber):
                function(msi(), rows + [7])


class ErrorTests(unittest.TestCase):
    def test_errors(self):
        """NotTable, BadNumber, TooLarge for the list, then for a bar"""
        for function in (with_rows, least_passing, greatest_safe, mends):
            for table in NO_TABLES:
                for rows in ([], [0, 0], list(range(9))):
                    with self.assertRaises(NotTable):
                        function(table, rows)
            for rows in ([7], [-1], [0, 0], [3, 10 ** 20], [True], [0, 1, 2, 3, 4, 5, 6, 0]):
                with self.assertRaises(BadNumber):
                    function(msi(), rows)
            with self.assertRaises(BadNumber):
                function(NO_ROWS, [0])

    def test_bars_that_are_too_large(self):
        """All sets are asked, and no bar by `least_passing`"""
        with self.assertRaises(TooLarge):
            bar(TOO_WIDE)
        fewer = next(number for number in range(23) if self.is_narrow(cut(TOO_WIDE, {number})))
        for rows in ([], [fewer]):
            for function in (greatest_safe, mends):
                with self.assertRaises(TooLarge):
                    function(TOO_WIDE, rows)
        self.assertEqual(least_passing(TOO_WIDE, []), [()] if passes(TOO_WIDE) else [])

    def is_narrow(self, table):
        try:
            return bar(table) is not None
        except TooLarge:
            return False

    def test_lists_are_new(self):
        for function in (least_passing, greatest_safe, mends):
            kept = list(function(msi(), [0, 2]))
            function(msi(), [0, 2]).clear()
            self.assertEqual(function(msi(), [0, 2]), kept)


if __name__ == "__main__":
    unittest.main()
