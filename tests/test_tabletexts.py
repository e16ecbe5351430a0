import unittest

from coheir.errors import Malformed, NotTable
from coheir.samples import mesi, mosi, msi
from coheir.tabletexts import read_table, text_of_table
from support import ALONE, NO_ROWS, chance, random_table

MSI = (
    "rights 0 1 2 homes 2 : 0 0 - 0 1 - 0 1 2 home keep : 1 0 2 0 1 1 0 1 2 other other"
    " : 0 0 - 1 2 - 0 0 2 home keep : 1 0 2 1 2 0 0 1 2 other keep : 0 1 - 1 2 - 0 0 2 keep keep"
    " : 0 1 - 0 0 - 0 1 2 keep keep : 1 2 - 0 0 - 0 1 2 keep own"
)


class TextTests(unittest.TestCase):
    """[20], [21], [22]"""

    def test_example(self):
        self.assertEqual(text_of_table(msi()), MSI)
        self.assertEqual(read_table(MSI), msi())

    def test_there_and_back(self):
        source = chance(3)
        tables = [random_table(source) for _ in range(100)]
        for table in tables + [mesi(), mosi(), NO_ROWS, ALONE]:
            self.assertEqual(read_table(text_of_table(table)), table)

    def test_small_ones(self):
        self.assertEqual(text_of_table(ALONE), "rights 0 homes 1")
        self.assertEqual(text_of_table(((0,) * 8, 6, ())), "rights 0 0 0 0 0 0 0 0 homes 6")

    def test_no_table(self):
        with self.assertRaises(NotTable):
            text_of_table(((1,), 1, ()))

    def test_too_early(self):
        words = MSI.split(" ")
        whole = [6 + 12 * rows for rows in range(8)]
        for count in range(1, len(words)):
            text = " ".join(words[:count])
            if count in whole:
                self.assertEqual(len(read_table(text)[2]), (count - 6) // 12)
            else:
                self.malformed(text, count)

    def test_wrong_words(self):
        words = MSI.split(" ")
        for at in range(len(words)):
            for wrong in ("", "x", "-1", "8", "00", "02", "Keep", "right", "\u0661"):
                self.malformed(" ".join(words[:at] + [wrong] + words[at + 1:]), at)

    def test_empty_words(self):
        self.malformed("", 0)
        self.malformed(" ", 0)
        self.malformed(" rights 0 homes 1", 0)
        self.malformed("rights  0 homes 1", 1)
        self.malformed("rights 0 homes 1 ", 4)
        self.malformed("rights 0 homes 1\n", 3)
        self.malformed("rights\t0 homes 1", 0)

    def test_rights(self):
        self.malformed("rights", 1)
        self.malformed("rights homes 1", 1)
        self.malformed("rights 0 3 homes 1", 2)
        self.malformed("rights 3 homes 1", 1)
        self.malformed("rights 0 0 0 0 0 0 0 0 0 homes 1", 9)
        self.malformed("rights 0 0 0 0 0 0 0 0", 9)
        self.malformed("rights 0 00 homes 1", 2)

    def test_homes(self):
        for word in ("0", "7", "01", "+1", "-1", "1.", "homes"):
            self.malformed("rights 0 homes " + word, 3)

    def test_rows(self):
        row = " : 0 0 - 0 0 - 0 keep keep"
        self.assertEqual(len(read_table("rights 0 homes 1" + row * 24)[2]), 24)
        self.malformed("rights 0 homes 1" + row * 25, 4 + 24 * 10)
        self.malformed("rights 0 homes 1" + row + " x", 14)
        self.malformed("rights 0 homes 1" + row + " keep", 14)

    def test_states_that_there_are(self):
        start = "rights 0 1 homes 2 : "
        self.assertTrue(read_table(start + "1 1 1 1 1 1 1 1 other other"))
        for at, text in (
            (6, "2 1 1 1 1 1 1 1 other other"), (7, "1 2 1 1 1 1 1 1 other other"),
            (8, "1 1 2 1 1 1 1 1 other other"), (9, "1 1 1 2 1 1 1 1 other other"),
            (10, "1 1 1 1 2 1 1 1 other other"), (11, "1 1 1 1 1 2 1 1 other other"),
            (12, "1 1 1 1 1 1 2 1 other other"), (13, "1 1 1 1 1 1 1 2 other other"),
        ):
            self.malformed(start + text, at)

    def test_partners(self):
        start = "rights 0 1 homes 1 : "
        self.malformed(start + "0 0 - 0 0 0 0 1 keep keep", 11)
        self.malformed(start + "0 0 1 0 0 - 0 1 keep keep", 11)
        self.malformed(start + "- 0 1 0 0 0 0 1 keep keep", 6)
        self.malformed(start + "0 0 - 0 0 - 0 1 other keep", 14)
        self.malformed(start + "0 0 - 0 0 - 0 1 own keep", 14)
        self.malformed(start + "0 0 - 0 0 - 0 1 keep other", 15)
        self.malformed(start + "0 0 0 0 0 0 0 1 keep home", 15)

    def test_first_right(self):
        for text in ("rights 1 homes 1", "rights 2 1 homes 1 : 0 0 - 0 0 - 0 1 keep keep"):
            with self.assertRaises(NotTable):
                read_table(text)
        self.malformed("rights 1 homes", 3)
        self.malformed("rights 1 homes 1 : 0 1", 6)

    def malformed(self, text, at):
        with self.assertRaises(Malformed) as caught:
            read_table(text)
        self.assertEqual(caught.exception.at, at, text)


if __name__ == "__main__":
    unittest.main()
