import unittest

from coheir.errors import BadNumber, NotTable, TooLarge
from coheir.samples import mesi, mosi, msi
from coheir.tables import check_table, is_table, renamed, rows_at, with_row, without_rows
from support import ALONE, NO_ROWS, chance, changed, random_table, with_changed_row

ROW = (0, 0, -1, 0, 1, -1, (0, 1, 2), "home", "keep")
WRONG = ((0, 1, 2), 0, ())


class FormTests(unittest.TestCase):
    """[1], [2]"""

    def test_tables(self):
        for table in (msi(), mesi(), mosi(), NO_ROWS, ALONE):
            self.assertIs(is_table(table), True)
            self.assertIsNone(check_table(table))

    def test_made_by_chance(self):
        source = chance(1)
        for _ in range(200):
            self.assertTrue(is_table(random_table(source)))

    def test_numbers_of_rights(self):
        for count in range(1, 9):
            self.assertTrue(is_table(((0,) + (2,) * (count - 1), 1, ())))
        for rights in ((), (0,) * 9, (0,) * 20):
            self.refused((rights, 1, ()))

    def test_rights(self):
        for right in (0, 1, 2):
            self.assertTrue(is_table(((0, right), 1, ())))
        for rights in ((1,), (2, 0), (0, 3), (0, -1), (-1,), (0, "1"), (0, True), (False,), (10 ** 30,)):
            self.refused((rights, 1, ()))

    def test_homes(self):
        for homes in range(1, 7):
            self.assertTrue(is_table(((0,), homes, ())))
        for homes in (0, 7, -1, 10 ** 30, "1", True):
            self.refused(((0,), homes, ()))

    def test_numbers_of_rows(self):
        for count in (0, 1, 23, 24):
            self.assertTrue(is_table(((0, 1, 2), 1, (ROW,) * count)))
        self.refused(((0, 1, 2), 1, (ROW,) * 25))

    def test_states_in_rows(self):
        for at in (0, 3):
            self.assertTrue(is_table(with_changed_row(msi(), 0, at, 1)))
            for value in (-1, 2, 10 ** 30, "0", True):
                self.refused(with_changed_row(msi(), 0, at, value))
        for at in (1, 4):
            self.assertTrue(is_table(with_changed_row(msi(), 0, at, 2)))
            for value in (-1, 3, -10 ** 30, "0", False):
                self.refused(with_changed_row(msi(), 0, at, value))

    def test_partners(self):
        for at in (2, 5):
            self.assertTrue(is_table(with_changed_row(msi(), 1, at, 0)))
            for value in (-1, -2, 3, "-", True):
                self.refused(with_changed_row(msi(), 1, at, value))
            for value in (0, 2, -2, 3):
                self.refused(with_changed_row(msi(), 0, at, value))

    def test_partners_both_wrong(self):
        for value in (-2, 3):
            self.refused(with_changed_row(with_changed_row(msi(), 0, 2, value), 0, 5, value))

    def test_others(self):
        for others in ((0, 0, 0), (2, 1, 0), (2, 2, 2)):
            self.assertTrue(is_table(with_changed_row(msi(), 0, 6, others)))
        for others in ((), (0, 1), (0, 1, 2, 0), (0, 1, 3), (0, -1, 2), (0, "1", 2), (0, True, 2)):
            self.refused(with_changed_row(msi(), 0, 6, others))

    def test_source_and_back(self):
        for row, words in ((0, ("keep", "home")), (1, ("keep", "home", "other"))):
            for word in ("keep", "home", "other", "own", "got", "", 0):
                self.assertEqual(is_table(with_changed_row(msi(), row, 7, word)), word in words)
        for row, words in ((0, ("keep", "own")), (1, ("keep", "own", "other"))):
            for word in ("keep", "home", "other", "own", "got", "", -1):
                self.assertEqual(is_table(with_changed_row(msi(), row, 8, word)), word in words)

    def refused(self, table):
        self.assertIs(is_table(table), False, table)
        with self.assertRaises(NotTable):
            check_table(table)


class RowsAtTests(unittest.TestCase):
    """[3]"""

    def test_rows(self):
        self.assertEqual(rows_at(msi(), 0, 0), [0, 2])
        self.assertEqual(rows_at(msi(), 0, 1), [4, 5])
        self.assertEqual(rows_at(msi(), 1, 0), [1, 3])
        self.assertEqual(rows_at(msi(), 1, 1), [])
        self.assertEqual(rows_at(msi(), 1, 2), [6])
        self.assertEqual(rows_at(NO_ROWS, 0, 0), [])

    def test_errors(self):
        for home, own in ((2, 0), (-1, 0), (0, 3), (0, -1), (10 ** 30, 10 ** 30)):
            with self.assertRaises(BadNumber):
                rows_at(msi(), home, own)
        with self.assertRaises(NotTable):
            rows_at(WRONG, 9, 9)

    def test_lists_are_new(self):
        rows_at(msi(), 0, 0).append(9)
        self.assertEqual(rows_at(msi(), 0, 0), [0, 2])


class ChangeTests(unittest.TestCase):
    def test_without_rows(self):
        rows = msi()[2]
        self.assertEqual(without_rows(msi(), [1, 3]), changed(msi(), 2, (rows[0], rows[2]) + rows[4:]))
        self.assertEqual(without_rows(msi(), [6, 0, 6]), changed(msi(), 2, rows[1:6]))
        self.assertEqual(without_rows(msi(), []), msi())
        self.assertEqual(without_rows(msi(), list(range(7))), changed(msi(), 2, ()))
        self.assertEqual(without_rows(NO_ROWS, []), NO_ROWS)

    def test_without_rows_leaves_the_list(self):
        numbers = [3, 1, 3]
        without_rows(msi(), numbers)
        self.assertEqual(numbers, [3, 1, 3])

    def test_without_rows_errors(self):
        for numbers in ([7], [-1], [0, 10 ** 30]):
            with self.assertRaises(BadNumber):
                without_rows(msi(), numbers)
        with self.assertRaises(BadNumber):
            without_rows(NO_ROWS, [0])
        with self.assertRaises(NotTable):
            without_rows(WRONG, [7])

    def test_with_row(self):
        self.assertEqual(with_row(NO_ROWS, ROW), ((0, 1, 2), 1, (ROW,)))
        full = ((0, 1, 2), 1, (ROW,) * 24)
        self.assertEqual(with_row(((0, 1, 2), 1, (ROW,) * 23), ROW), full)
        with self.assertRaises(TooLarge):
            with_row(full, ROW)

    def test_with_row_errors(self):
        full = ((0, 1, 2), 1, (ROW,) * 24)
        for row in (changed(ROW, 0, 1), changed(ROW, 1, 3), changed(ROW, 7, "other"), changed(ROW, 6, (0, 1))):
            for table in (NO_ROWS, full):
                with self.assertRaises(BadNumber):
                    with_row(table, row)
        for row in (ROW, changed(ROW, 0, 1)):
            with self.assertRaises(NotTable):
                with_row(((0, 1, 2), 1, (ROW,) * 25), row)


class RenameTests(unittest.TestCase):
    """[109]: the form of it; that nothing else changes, is asked in the tests of coherence."""

    def test_same_numbers(self):
        for table in (msi(), mesi(), mosi(), NO_ROWS, ALONE):
            self.assertEqual(renamed(table, tuple(range(len(table[0]))), tuple(range(table[1]))), table)

    def test_states(self):
        table = ((0, 1, 2), 1, ((0, 1, 2, 0, 2, 0, (1, 2, 0), "other", "own"),))
        self.assertEqual(
            renamed(table, (0, 2, 1), (0,)),
            ((0, 2, 1), 1, ((0, 2, 1, 0, 1, 0, (2, 0, 1), "other", "own"),)),
        )

    def test_three_states_in_a_round(self):
        table = ((0, 0, 1, 2), 1, ((0, 1, -1, 0, 2, -1, (0, 3, 1, 2), "home", "keep"),))
        self.assertEqual(
            renamed(table, (0, 2, 3, 1), (0,)),
            ((0, 2, 0, 1), 1, ((0, 2, -1, 0, 3, -1, (0, 3, 1, 2), "home", "keep"),)),
        )

    def test_homes(self):
        table = ((0,), 3, ((0, 0, -1, 1, 0, -1, (0,), "home", "own"), (2, 0, 0, 0, 0, 0, (0,), "keep", "keep")))
        self.assertEqual(
            renamed(table, (0,), (1, 2, 0)),
            ((0,), 3, ((1, 0, -1, 2, 0, -1, (0,), "home", "own"), (0, 0, 0, 1, 0, 0, (0,), "keep", "keep"))),
        )

    def test_back_again(self):
        source = chance(2)
        for _ in range(100):
            table = random_table(source)
            states = [0] + source.sample(range(1, len(table[0])), len(table[0]) - 1)
            homes = source.sample(range(table[1]), table[1])
            there = renamed(table, tuple(states), tuple(homes))
            self.assertTrue(is_table(there))
            back = tuple(states.index(k) for k in range(len(states)))
            back_homes = tuple(homes.index(k) for k in range(len(homes)))
            self.assertEqual(renamed(there, back, back_homes), table)

    def test_errors(self):
        for states in ((1, 0, 2), (0, 1), (0, 1, 1), (0, 1, 3), (0, 1, 2, 3), (0, 1, -1), ()):
            with self.assertRaises(BadNumber):
                renamed(msi(), states, (0, 1))
        for homes in ((0,), (0, 0), (1, 2), (0, 1, 2), ()):
            with self.assertRaises(BadNumber):
                renamed(msi(), (0, 2, 1), homes)
        with self.assertRaises(NotTable):
            renamed(WRONG, (1,), ())


if __name__ == "__main__":
    unittest.main()
