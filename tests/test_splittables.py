"""Split tables and the known one, [400] to [404]"""

import unittest

from coheir.errors import BadNumber, NoAnswer, NotTable
from coheir.samples import mesi, mosi, msi
from coheir.splitsamples import split_forgetful, split_msi
from coheir.splittables import check_split_table, is_split_table, split_of, split_renamed, split_without
from splits import ASKING, BOTH, CARELESS, NO_SPLIT_ROWS, SELF, SPLIT_ALONE, random_split
from support import ALONE, NO_ROWS, SMALL, chance, changed, random_table

# A row with a home, an own state and a message, for 3 states of caches, 2 of the home and 2 kinds of messages.
WHOLE = (1, 2, 1, 0, 1, (0, 2, 1), ((0, "own"), (1, "got")), "got", "own")
HOME = (1, -1, 1, 0, -1, (0, 2, 1), ((0, "home"), (1, "got")), "keep", "got")
OWN = (-1, 2, 1, -1, 1, (0, 2, 1), ((0, "own"), (1, "got")), "got", "keep")


def with_row(row):
    return ((0, 1, 2), 2, 2, (row,))


def other_row(row, at, value):
    return with_row(changed(row, at, value))


class TableTests(unittest.TestCase):
    """[400]"""

    def right(self, table):
        self.assertIs(is_split_table(table), True, table)
        self.assertIsNone(check_split_table(table))

    def wrong(self, table):
        self.assertIs(is_split_table(table), False, table)
        with self.assertRaises(NotTable):
            check_split_table(table)

    def test_known_ones(self):
        for table in (split_msi(), ASKING, SELF, CARELESS, BOTH, NO_SPLIT_ROWS, SPLIT_ALONE):
            self.right(table)
        source = chance(1)
        for _ in range(200):
            self.right(random_split(source))

    def test_parts(self):
        for table in ((), ((0,), 1, 1), ((0,), 1, 1, (), ()), msi(), [(0,), 1, 1, ()], 7):
            self.wrong(table)

    def test_rights(self):
        for rights in ((0,), (0, 0, 1, 2), (0,) + (2,) * 7):
            self.right((rights, 1, 1, ()))
        for rights in ((), (1,), (2, 0), (0,) * 9, (0, 3), (0, -1), (0, "1"), ("0",), (0, True), (False,), [0], 0):
            self.wrong((rights, 1, 1, ()))

    def test_homes_and_messages(self):
        for number in range(1, 7):
            self.right(((0,), number, 1, ()))
        for number in range(1, 9):
            self.right(((0,), 1, number, ()))
        for number in (0, 7, -1, 10 ** 30, "1", True):
            self.wrong(((0,), number, 1, ()))
        for number in (0, 9, -1, 10 ** 30, "1", True):
            self.wrong(((0,), 1, number, ()))

    def test_numbers_of_rows(self):
        for number in (1, 39, 40):
            self.right(((0, 1, 2), 2, 2, (WHOLE,) * number))
        for number in (41, 80):
            self.wrong(((0, 1, 2), 2, 2, (WHOLE,) * number))
        self.wrong(((0, 1, 2), 2, 2, [WHOLE]))
        self.wrong(((0, 1, 2), 2, 2, (WHOLE, WHOLE[:8])))


class RowTests(TableTests):
    """[401]"""

    def test_right_ones(self):
        for row in (WHOLE, HOME, OWN):
            self.right(with_row(row))
            for at, value in ((2, 0), (5, (0, 0, 0)), (5, (2, 2, 2)), (6, ()), (6, ((1, "got"),) * 2), (6, ((0, "got"),))):
                self.right(other_row(row, at, value))
        for at, values in ((0, (0, 1)), (1, (0, 1, 2)), (3, (0, 1)), (4, (0, 1, 2))):
            for value in values:
                self.right(other_row(WHOLE, at, value))

    def test_lengths(self):
        for row in (WHOLE, HOME, OWN):
            self.wrong(with_row(row[:8]))
            self.wrong(with_row(row + ("keep",)))
        self.wrong(with_row(list(WHOLE)))

    def test_home(self):
        """Both a state, or both -1"""
        for value in (2, -2, 10 ** 30, "1", True):
            self.wrong(other_row(WHOLE, 0, value))
            self.wrong(other_row(WHOLE, 3, value))
            self.wrong(other_row(OWN, 0, value))
            self.wrong(other_row(OWN, 3, value))
        self.wrong(other_row(WHOLE, 0, -1))
        self.wrong(other_row(WHOLE, 3, -1))
        self.wrong(other_row(OWN, 0, 0))
        self.wrong(other_row(OWN, 3, 0))
        self.wrong(with_row(changed(changed(OWN, 0, -2), 3, -2)))

    def test_own(self):
        for value in (3, -2, 10 ** 30, "1", True):
            self.wrong(other_row(WHOLE, 1, value))
            self.wrong(other_row(WHOLE, 4, value))
            self.wrong(other_row(HOME, 1, value))
            self.wrong(other_row(HOME, 4, value))
        self.wrong(other_row(WHOLE, 1, -1))
        self.wrong(other_row(WHOLE, 4, -1))
        self.wrong(other_row(HOME, 1, 0))
        self.wrong(other_row(HOME, 4, 0))
        self.wrong(with_row(changed(changed(HOME, 1, -2), 4, -2)))

    def test_one_of_both(self):
        """home and own are not both -1"""
        self.wrong(with_row((-1, -1, -1, -1, -1, (0, 1, 2), (), "keep", "keep")))
        self.wrong(with_row((-1, -1, 0, -1, -1, (0, 1, 2), ((0, "got"),), "keep", "keep")))

    def test_gets(self):
        for kind in range(8):
            row = (0, 0, kind, 0, 0, (0,), ((kind, "got"),), "got", "got")
            self.right(((0,), 1, 8, (row,)))
            self.right(((0,), 1, kind + 1, (row,)))
            if kind:
                self.wrong(((0,), 1, kind, (row,)))
        for value in (2, -2, 10 ** 30, "0", True):
            self.wrong(other_row(changed(WHOLE, 6, ()), 2, value))

    def test_others(self):
        for value in ((0, 1), (0, 1, 2, 0), (), (0, 1, 3), (0, -1, 2), (0, "1", 2), (0, True, 2), [0, 1, 2]):
            for row in (WHOLE, HOME, OWN):
                self.wrong(other_row(row, 5, value))

    def test_sends(self):
        for value in (((0, "own"),) * 3, ((2, "own"),), ((-1, "own"),), (("0", "own"),), ((True, "own"),), ((0,),),
                      ((0, "own", 1),), ((0, "own"), (2, "own")), ((0, "own"), (1, "keep")), ((0, ""),), ((0, "other"),),
                      ((0, "Own"),), [(0, "own")]):
            self.wrong(other_row(WHOLE, 6, value))
        for value in ((), ((0, "own"),), ((1, "home"), (1, "home")), ((1, "got"), (0, "own")), ((1, "own"), (1, "got"))):
            self.right(other_row(WHOLE, 6, value))

    def test_words(self):
        """own, home and got stand only where there is one; keep is never sent"""
        bare = {"whole": changed(changed(WHOLE, 7, "keep"), 8, "keep"), "home": changed(HOME, 8, "keep"),
                "own": changed(OWN, 7, "keep")}
        there = {"whole": ("own", "home", "got"), "home": ("home", "got"), "own": ("own", "got")}
        sources = {"whole": ("keep", "home", "got"), "home": ("keep",), "own": ("keep", "got")}
        backs = {"whole": ("keep", "own", "got"), "home": ("keep", "got"), "own": ("keep",)}
        for name, row in bare.items():
            for got in (True, False):
                told = changed(row, 6, ()) if got else changed(changed(row, 6, ()), 2, -1)
                for word in ("keep", "own", "home", "got", "other", "", "Keep"):
                    for at, words in ((6, there), (7, sources), (8, backs)):
                        value = ((0, word),) if at == 6 else word
                        check = self.right if word in words[name] and (got or word != "got") else self.wrong
                        check(other_row(told, at, value))


class OfTests(unittest.TestCase):
    """[404]"""

    def test_without_partners(self):
        self.assertEqual(split_of(NO_ROWS), ((0, 1, 2), 1, 1, ()))
        self.assertEqual(split_of(ALONE), ((0,), 1, 1, ()))
        self.assertEqual(split_of(SMALL), ((0, 2), 1, 1, (
            (0, 0, -1, 0, 1, (0, 1), (), "home", "keep"), (0, 1, -1, 0, 0, (0, 1), (), "keep", "own"))))

    def test_by_chance(self):
        source = chance(2)
        for _ in range(100):
            table = random_table(source)
            rows = tuple(row for row in table[2] if row[2] == -1)
            found = split_of((table[0], table[1], rows))
            self.assertTrue(is_split_table(found))
            self.assertEqual(found[:3], (table[0], table[1], 1))
            self.assertEqual([row[:2] + row[3:5] + row[6:] for row in rows], [r[:2] + r[3:6] + r[7:] for r in found[3]])
            self.assertEqual({(row[2], row[6]) for row in found[3]}, {(-1, ())} if rows else set())
            if len(rows) < len(table[2]):
                with self.assertRaises(NoAnswer):
                    split_of(table)

    def test_errors(self):
        for table in (msi(), mesi(), mosi()):
            with self.assertRaises(NoAnswer):
                split_of(table)
        for table in ((), split_msi(), ((1,), 1, ()), changed(msi(), 1, 0)):
            with self.assertRaises(NotTable):
                split_of(table)


class SampleTests(unittest.TestCase):
    """[403]"""

    def test_msi(self):
        rights, homes, messages, rows = split_msi()
        same = (0, 1, 2, 3, 4)
        self.assertEqual((rights, homes, messages, len(rows)), ((0, 1, 2, 0, 0), 5, 5, 9))
        self.assertEqual(rows, (
            (-1, 0, -1, -1, 3, same, ((3, "own"),), "keep", "keep"), (0, -1, 3, 2, -1, same, ((0, "home"),), "keep", "keep"),
            (2, 3, 0, 0, 1, same, (), "got", "keep"), (-1, 0, -1, -1, 4, same, ((4, "own"),), "keep", "keep"),
            (0, -1, 4, 3, -1, (0, 0, 2, 3, 4), ((1, "home"),), "keep", "keep"), (3, 4, 1, 1, 2, same, (), "got", "keep"),
            (-1, 1, -1, -1, 0, same, (), "keep", "keep"), (1, 2, -1, 4, 0, same, ((2, "own"),), "keep", "keep"),
            (4, -1, 2, 0, -1, same, (), "keep", "got")))

    def test_forgetful(self):
        for table in (split_msi(), ASKING, BOTH):
            for number, row in enumerate(table[3]):
                found = split_forgetful(table, number)
                self.assertEqual(found[:3], table[:3])
                self.assertEqual(found[3][number], changed(row, 5, tuple(range(len(table[0])))))
                self.assertEqual(found[3][:number] + found[3][number + 1:], table[3][:number] + table[3][number + 1:])
        self.assertNotEqual(split_forgetful(split_msi(), 4), split_msi())
        self.assertEqual(split_forgetful(split_msi(), 0), split_msi())

    def test_errors(self):
        for number in (9, -1, 10 ** 30):
            with self.assertRaises(BadNumber):
                split_forgetful(split_msi(), number)
            with self.assertRaises(NotTable):
                split_forgetful(msi(), number)
        with self.assertRaises(BadNumber):
            split_forgetful(NO_SPLIT_ROWS, 0)


class ChangeTests(unittest.TestCase):
    def test_without(self):
        rows = split_msi()[3]
        numbers = [7, 0, 7, 3]
        found = split_without(split_msi(), numbers)
        self.assertEqual(found, split_msi()[:3] + ((rows[1], rows[2], rows[4], rows[5], rows[6], rows[8]),))
        self.assertEqual(numbers, [7, 0, 7, 3])
        self.assertEqual(split_without(split_msi(), []), split_msi())
        self.assertEqual(split_without(split_msi(), list(range(9)))[3], ())
        for numbers in ([9], [-1], [0, 9], [10 ** 30]):
            with self.assertRaises(BadNumber):
                split_without(split_msi(), numbers)
            with self.assertRaises(NotTable):
                split_without(msi(), numbers)

    def test_renamed(self):
        table = ((0, 1, 2), 2, 3, (
            (0, 1, 2, 1, 2, (0, 2, 1), ((0, "own"), (1, "home")), "got", "own"),
            (1, -1, -1, 0, -1, (1, 1, 2), ((2, "home"), (0, "home")), "keep", "keep"),
            (-1, 2, 0, -1, 0, (2, 0, 1), (), "got", "keep"),
        ))
        self.assertEqual(split_renamed(table, (0, 2, 1), (1, 0), (2, 0, 1)), ((0, 2, 1), 2, 3, (
            (1, 2, 1, 0, 1, (0, 2, 1), ((2, "own"), (0, "home")), "got", "own"),
            (0, -1, -1, 1, -1, (2, 1, 2), ((1, "home"), (2, "home")), "keep", "keep"),
            (-1, 1, 2, -1, 0, (1, 2, 0), (), "got", "keep"),
        )))

    def test_renamed_and_back(self):
        source = chance(3)
        for _ in range(150):
            table = random_split(source)
            states = [0] + source.sample(range(1, len(table[0])), len(table[0]) - 1)
            homes, messages = source.sample(range(table[1]), table[1]), source.sample(range(table[2]), table[2])
            found = split_renamed(table, tuple(states), tuple(homes), tuple(messages))
            self.assertTrue(is_split_table(found))
            self.assertEqual([found[0][state] for state in states], list(table[0]))
            for row, other in zip(table[3], found[3]):
                new = [homes, states, messages, homes, states]
                self.assertEqual(list(other[:5]), [-1 if n == -1 else new[at][n] for at, n in enumerate(row[:5])])
                self.assertEqual([other[5][states[s]] for s in range(len(states))], [states[s] for s in row[5]])
                self.assertEqual(other[6], tuple((messages[kind], word) for kind, word in row[6]))
                self.assertEqual(other[7:], row[7:])
            back = [tuple(told.index(at) for at in range(len(told))) for told in (states, homes, messages)]
            self.assertEqual(split_renamed(found, *back), table)

    def test_renamed_errors(self):
        right = ((0, 1, 2), (0, 1), (0, 1))
        table = ((0, 1, 2), 2, 2, (WHOLE,))
        self.assertEqual(split_renamed(table, *right), table)
        for at, wrong in (
            (0, (1, 0, 2)), (0, (0, 1)), (0, (0, 1, 2, 3)), (0, (0, 1, 1)), (0, (0, 1, 3)), (0, ()), (0, (0, -1, 1)),
            (1, (0,)), (1, (0, 0)), (1, (0, 1, 2)), (1, (1, 2)), (1, ()), (1, (-1, 0)),
            (2, (0,)), (2, (0, 0)), (2, (0, 1, 2)), (2, (1, 2)), (2, ()), (2, (-1, 0)),
        ):
            with self.assertRaises(BadNumber):
                split_renamed(table, *changed(right, at, wrong))
            with self.assertRaises(NotTable):
                split_renamed(msi(), *changed(right, at, wrong))
        self.assertEqual(split_renamed(table, (0, 1, 2), (1, 0), (1, 0))[3][0][:4], (0, 2, 0, 1))


if __name__ == "__main__":
    unittest.main()
