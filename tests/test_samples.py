import unittest

from coheir.errors import BadNumber, NotTable
from coheir.samples import forgetful, mesi, mosi, msi
from coheir.tables import is_table
from support import NO_ROWS, with_changed_row

MSI = ((0, 1, 2), 2, ((0, 0, -1, 0, 1, -1, (0, 1, 2), "home", "keep"), (1, 0, 2, 0, 1, 1, (0, 1, 2), "other", "other"), (0, 0, -1, 1, 2, -1, (0, 0, 2), "home", "keep"), (1, 0, 2, 1, 2, 0, (0, 1, 2), "other", "keep"), (0, 1, -1, 1, 2, -1, (0, 0, 2), "keep", "keep"), (0, 1, -1, 0, 0, -1, (0, 1, 2), "keep", "keep"), (1, 2, -1, 0, 0, -1, (0, 1, 2), "keep", "own")))

MESI = ((0, 1, 1, 2), 3, ((0, 0, -1, 2, 2, -1, (0, 1, 2, 3), "home", "keep"), (1, 0, -1, 1, 1, -1, (0, 1, 2, 3), "home", "keep"), (2, 0, 2, 1, 1, 1, (0, 1, 2, 3), "other", "keep"), (2, 0, 3, 1, 1, 1, (0, 1, 2, 3), "other", "other"), (0, 0, -1, 2, 3, -1, (0, 1, 2, 3), "home", "keep"), (1, 0, -1, 2, 3, -1, (0, 0, 2, 3), "home", "keep"), (1, 1, -1, 2, 3, -1, (0, 0, 2, 3), "keep", "keep"), (2, 0, 2, 2, 3, 0, (0, 1, 2, 3), "other", "keep"), (2, 0, 3, 2, 3, 0, (0, 1, 2, 3), "other", "keep"), (2, 2, -1, 2, 3, -1, (0, 1, 2, 3), "keep", "keep"), (1, 1, -1, 1, 0, -1, (0, 1, 2, 3), "keep", "keep"), (2, 2, -1, 0, 0, -1, (0, 1, 2, 3), "keep", "keep"), (2, 3, -1, 0, 0, -1, (0, 1, 2, 3), "keep", "own")))

MOSI = ((0, 1, 1, 2), 2, ((0, 0, -1, 0, 1, -1, (0, 1, 2, 3), "home", "keep"), (1, 0, 3, 1, 1, 2, (0, 1, 2, 3), "other", "keep"), (1, 0, 2, 1, 1, 2, (0, 1, 2, 3), "other", "keep"), (0, 0, -1, 1, 3, -1, (0, 0, 0, 0), "home", "keep"), (0, 1, -1, 1, 3, -1, (0, 0, 0, 0), "keep", "keep"), (1, 2, -1, 1, 3, -1, (0, 0, 0, 0), "keep", "keep"), (1, 0, 3, 1, 3, 0, (0, 0, 0, 0), "other", "keep"), (1, 0, 2, 1, 3, 0, (0, 0, 0, 0), "other", "keep"), (1, 1, 2, 1, 3, 0, (0, 0, 0, 0), "other", "keep"), (1, 2, -1, 0, 1, -1, (0, 1, 2, 3), "keep", "own"), (0, 1, -1, 0, 0, -1, (0, 1, 2, 3), "keep", "keep"), (1, 1, -1, 1, 0, -1, (0, 1, 2, 3), "keep", "keep"), (1, 3, -1, 0, 0, -1, (0, 1, 2, 3), "keep", "own")))


class SampleTests(unittest.TestCase):
    """[4], [5], [6]"""

    def test_samples(self):
        self.assertEqual(msi(), MSI)
        self.assertEqual(mesi(), MESI)
        self.assertEqual(mosi(), MOSI)
        for table in (MSI, MESI, MOSI):
            self.assertTrue(is_table(table))

    def test_forgetful(self):
        self.assertEqual(forgetful(msi(), 4), with_changed_row(MSI, 4, 6, (0, 1, 2)))
        self.assertEqual(forgetful(msi(), 0), MSI)
        self.assertEqual(forgetful(mosi(), 12), MOSI)
        self.assertEqual(forgetful(mosi(), 3), with_changed_row(MOSI, 3, 6, (0, 1, 2, 3)))

    def test_forgetful_errors(self):
        for number in (7, -1, 10 ** 30):
            with self.assertRaises(BadNumber):
                forgetful(msi(), number)
        with self.assertRaises(BadNumber):
            forgetful(NO_ROWS, 0)
        with self.assertRaises(NotTable):
            forgetful(((1,), 1, ()), 5)


if __name__ == "__main__":
    unittest.main()
