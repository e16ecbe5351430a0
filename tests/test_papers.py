import unittest

from coheir.backs import met_kinds, met_stands
from coheir.bars import bar
from coheir.coherence import fewest_caches, is_coherent
from coheir.errors import NotTable, TooLarge
from coheir.lineplay import play
from coheir.papers import verdict
from coheir.samples import forgetful, mesi, mosi, msi
from coheir.tablecheck import is_comes, is_never, shown
from support import ALONE, NO_ROWS, SMALL, TOO_WIDE, chance, nearby_table, random_table
from test_coherence import EMPTY_COPY, is_wrong


class VerdictTests(unittest.TestCase):
    """[120], [121], [122]"""

    def test_coherent(self):
        for table in (msi(), mesi(), mosi(), NO_ROWS, ALONE):
            self.assertEqual(verdict(table), ("never", met_stands(table), met_kinds(table), bar(table)))
        self.assertEqual(verdict(ALONE), ("never", [(0, 1)], [(0, 0)], []))

    def test_not_coherent(self):
        for table in (SMALL, forgetful(msi(), 4), forgetful(mosi(), 3), forgetful(mesi(), 5), EMPTY_COPY):
            word, count, moves = verdict(table)
            self.assertEqual((word, count), ("comes", fewest_caches(table)))
            stores = [move[2] for move in moves if move[0] == "store"]
            self.assertTrue(is_wrong(table, play(table, count, moves), len(stores)))
        self.assertEqual(verdict(EMPTY_COPY), ("comes", 1, [("row", 0, 0, -1)]))

    def test_each_table_has_papers_of_one_kind(self):
        source = chance(51)
        words = {"never": 0, "comes": 0}
        while min(words.values()) < 25:
            table = random_table(source, 5, 3, 12)
            paper = verdict(table)
            words[paper[0]] += 1
            self.assertEqual(paper[0] == "never", is_coherent(table))
            self.assertEqual(shown(table, paper), paper[0])
            self.assertIs(is_never(table, paper), paper[0] == "never")
            self.assertIs(is_comes(table, paper), paper[0] == "comes")

    def test_tables_with_a_row_changed(self):
        source = chance(52)
        for known in (msi(), mesi(), mosi()):
            for _ in range(25):
                table = nearby_table(source, known)
                paper = verdict(table)
                self.assertEqual(shown(table, paper), paper[0])

    def test_too_large(self):
        with self.assertRaises(TooLarge):
            verdict(TOO_WIDE)

    def test_lists_are_new(self):
        for table in (msi(), forgetful(msi(), 4)):
            expected = verdict(table)
            for entries in [part for part in verdict(table) if isinstance(part, list)]:
                entries.clear()
            again = verdict(table)
            self.assertEqual(again, expected)
            self.assertFalse(any(a is b for a in again for b in expected if isinstance(a, list)))

    def test_no_table(self):
        with self.assertRaises(NotTable):
            verdict(((1,), 1, ()))


if __name__ == "__main__":
    unittest.main()
