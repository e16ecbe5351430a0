"""Texts of split tables, [405] and [406]"""

import unittest

from coheir.errors import Malformed, NotTable
from coheir.samples import msi
from coheir.splitsamples import split_msi
from coheir.splittexts import read_split, text_of_split
from splits import ASKING, BOTH, CARELESS, NO_SPLIT_ROWS, SELF, SPLIT_ALONE, random_split
from support import chance

HEAD = "rights 0 1 homes 2 messages 3 : "
ROW = " : 0 0 - 0 0 0 ; keep keep"


class TextTests(unittest.TestCase):
    def malformed(self, text, at):
        with self.assertRaises(Malformed) as caught:
            read_split(text)
        self.assertEqual(caught.exception.at, at, text)

    def test_written_out(self):
        self.assertEqual(text_of_split(SELF), (
            "rights 0 1 homes 1 messages 1 : - 0 - - 0 0 1 0 own ; keep keep : - 0 0 - 1 0 1 ; got keep"))
        self.assertEqual(text_of_split(ASKING), (
            "rights 0 1 2 homes 2 messages 2 : - 0 - - 0 0 1 2 0 own ; keep keep : 0 - 0 1 - 0 1 2 1 home ; keep keep"
            " : - 0 1 - 2 0 1 2 ; got keep : 1 2 - 0 0 0 1 2 ; keep own"))
        self.assertEqual(text_of_split(SPLIT_ALONE), "rights 0 homes 1 messages 1")
        self.assertEqual(text_of_split(((0,) * 8, 6, 8, ())), "rights 0 0 0 0 0 0 0 0 homes 6 messages 8")

    def test_two_sends(self):
        text = "rights 0 homes 1 messages 2 : 0 0 1 0 0 0 1 got 0 home ; got own"
        table = ((0,), 1, 2, ((0, 0, 1, 0, 0, (0,), ((1, "got"), (0, "home")), "got", "own"),))
        self.assertEqual((text_of_split(table), read_split(text)), (text, table))

    def test_there_and_back(self):
        source = chance(1)
        for table in [random_split(source) for _ in range(150)] + [split_msi(), BOTH, CARELESS, NO_SPLIT_ROWS]:
            self.assertEqual(read_split(text_of_split(table)), table)

    def test_no_table(self):
        for table in (((1,), 1, 1, ()), msi(), ()):
            with self.assertRaises(NotTable):
                text_of_split(table)

    def test_too_early(self):
        for table in (split_msi(), BOTH):
            words = text_of_split(table).split(" ")
            ends = [at for at, word in enumerate(words) if word == ":"] + [len(words)]
            for count in range(1, len(words)):
                text = " ".join(words[:count])
                if count in ends:
                    self.assertEqual(read_split(text), table[:3] + (table[3][:ends.index(count)],))
                else:
                    self.malformed(text, count)

    def test_wrong_words(self):
        """At each place, whatever stands behind it"""
        words = text_of_split(BOTH).split(" ")
        for at in range(len(words)):
            for wrong in ("", "x", "-1", "9", "00", "02", "Keep", "right", "\u0661", "other", "--", "own;"):
                self.malformed(" ".join(words[:at] + [wrong] + words[at + 1:]), at)
                self.malformed(" ".join(words[:at] + [wrong]), at)

    def test_empty_words(self):
        self.malformed("", 0)
        self.malformed(" ", 0)
        self.malformed(" rights 0 homes 1 messages 1", 0)
        self.malformed("rights 0  homes 1 messages 1", 2)
        self.malformed("rights 0 homes 1 messages 1 ", 6)
        self.malformed("rights 0 homes 1 messages 1\n", 5)
        self.malformed("rights\t0", 0)

    def test_head(self):
        self.malformed("rights", 1)
        self.malformed("rights homes 1 messages 1", 1)
        self.malformed("rights 0 3 homes 1 messages 1", 2)
        self.malformed("rights 0 0 0 0 0 0 0 0 0 homes 1 messages 1", 9)
        self.malformed("rights 0 0 0 0 0 0 0 0 messages", 9)
        self.malformed("rights - homes 1 messages 1", 1)
        self.malformed("rights 0 - homes 1 messages 1", 2)
        self.malformed("rights 0 homes 1", 4)
        self.malformed("rights 0 homes 1 : 0", 4)
        self.malformed("rights 0 homes 1 messages", 5)
        for word in ("0", "7", "01", "+1", "-1", "-", "1."):
            self.malformed(f"rights 0 homes {word} messages 1", 3)
        for word in ("0", "9", "01", "+1", "-1", "-", "1."):
            self.malformed(f"rights 0 homes 1 messages {word}", 5)
        self.assertEqual(read_split("rights 0 2 1 homes 6 messages 8"), ((0, 2, 1), 6, 8, ()))

    def test_numbers_of_rows(self):
        head = "rights 0 homes 1 messages 1"
        self.assertEqual(len(read_split(head + ROW * 40)[3]), 40)
        self.malformed(head + ROW * 41, 6 + 40 * 10)
        self.malformed(head + ROW + " x", 16)
        self.malformed(head + ROW + " keep", 16)

    def test_home_and_own(self):
        """`-` for own only if home has a number, and for the states behind the row where it stands ahead of it"""
        self.assertEqual(read_split(HEAD + "1 - 2 1 - 1 1 2 got ; keep got")[3],
                         ((1, -1, 2, 1, -1, (1, 1), ((2, "got"),), "keep", "got"),))
        self.assertEqual(read_split(HEAD + "- 1 2 - 1 1 1 2 got ; got keep")[3],
                         ((-1, 1, 2, -1, 1, (1, 1), ((2, "got"),), "got", "keep"),))
        self.malformed(HEAD + "- - 2 - - 1 1 ; keep keep", 9)
        self.malformed(HEAD + "2 - 2 1 - 1 1 ; keep keep", 8)
        self.malformed(HEAD + "1 2 2 1 1 1 1 ; keep keep", 9)
        self.malformed(HEAD + "1 1 3 1 1 1 1 ; keep keep", 10)
        self.malformed(HEAD + "1 1 2 - 1 1 1 ; keep keep", 11)
        self.malformed(HEAD + "1 1 2 2 1 1 1 ; keep keep", 11)
        self.malformed(HEAD + "- 1 2 1 1 1 1 ; keep keep", 11)
        self.malformed(HEAD + "1 1 2 1 - 1 1 ; keep keep", 12)
        self.malformed(HEAD + "1 1 2 1 2 1 1 ; keep keep", 12)
        self.malformed(HEAD + "1 - 2 1 1 1 1 ; keep keep", 12)
        self.malformed(HEAD + "1 1 2 1 1 - 1 ; keep keep", 13)
        self.malformed(HEAD + "1 1 2 1 1 2 1 ; keep keep", 13)
        self.malformed(HEAD + "1 1 2 1 1 1 2 ; keep keep", 14)
        self.malformed(HEAD + "1 1 2 1 1 1 ; keep keep", 14)

    def test_sends(self):
        start = HEAD + "1 1 2 1 1 0 0 "
        self.assertEqual(read_split(start + "0 own 2 got ; keep keep")[3][0][6], ((0, "own"), (2, "got")))
        self.assertEqual(read_split(start + "; keep keep")[3][0][6], ())
        for text, at in (("3 own ; keep keep", 15), ("0 own - got ; keep keep", 17), ("0 - ; keep keep", 16), ("- own ; keep keep", 15), ("own ; keep keep", 15), ("keep keep", 15),
                         ("0 keep ; keep keep", 16), ("0 ; keep keep", 16), ("0 0 ; keep keep", 16), ("0 other", 16),
                         ("0 own 3 own ; keep keep", 17), ("0 own keep keep", 17), ("0 own 1 1", 18), ("0 own 1 ;", 18),
                         ("0 own 1 got 2 home ; keep keep", 19), ("0 own 1 got keep keep", 19), ("0 own 1 got : keep", 19)):
            self.malformed(start + text, at)

    def test_a_sign_for_no_number(self):
        """`-` stands for home, own and gets alone, and behind the row where it stands ahead of it"""
        words = (HEAD + "1 1 2 1 1 0 1 0 own 2 got ; keep keep").split(" ")
        taken = []
        for at in range(8, len(words)):
            try:
                read_split(" ".join(words[:at] + ["-"] + words[at + 1:]))
                taken.append(at)
            except Malformed as error:
                # A `-` that may stand there leaves what stands behind it wrong.
                self.assertEqual(error.at, {8: 11, 9: 12, 10: 18}.get(at, at))
        self.assertEqual(taken, [])

    def test_words_for_copies(self):
        """Each word, with and without a home, an own state and a message"""
        for home, own in (("1", "1"), ("1", "-"), ("-", "1")):
            for gets in ("2", "-"):
                there = {"home": home != "-", "own": own != "-", "got": gets != "-"}
                start = HEAD + f"{home} {own} {gets} {home} {own} 0 1 "
                for word in ("keep", "home", "own", "got", "other"):
                    sent = there.get(word, False)
                    self.taken(start + f"0 {word} ; keep keep", 16, sent)
                    source = word == "keep" or (sent and word != "own" and own != "-")
                    self.taken(start + f"; {word} keep", 16, source)
                    back = word == "keep" or (sent and word != "home" and home != "-")
                    self.taken(start + f"; keep {word}", 17, back)

    def taken(self, text, at, right):
        if right:
            self.assertEqual(text_of_split(read_split(text)), text)
        else:
            self.malformed(text, at)

    def test_first_right(self):
        for text in ("rights 1 homes 1 messages 1", "rights 2 1 homes 1 messages 1" + " : 0 0 - 0 0 0 0 ; keep keep"):
            with self.assertRaises(NotTable):
                read_split(text)
        self.malformed("rights 1 homes 1 messages", 5)
        self.malformed("rights 1 homes 1 messages 1 : 0 1", 8)


if __name__ == "__main__":
    unittest.main()
