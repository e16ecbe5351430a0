"""Lines, names and numbers, [330] and [331]"""

import itertools
import unittest

from coheir.lines import is_name, number_in, words_of


class LineTests(unittest.TestCase):
    def test_words(self):
        self.assertEqual(words_of("a"), ["a"])
        self.assertEqual(words_of("ab ! ~ 07 |"), ["ab", "!", "~", "07", "|"])
        every = "".join(chr(code) for code in range(33, 127))
        self.assertEqual(words_of(f"{every} {every}"), [every, every])

    def test_malformed_lines(self):
        for line in ("", " ", "  ", " a", "a ", "a  b", "a\tb", "a\n", "\n", "a\x7f", "\x00", "\u00e9", "a \u00a0 b", "a\u2003b",
                     "a b\r", "\x1fa", "sample a msi "):
            self.assertIsNone(words_of(line), line)

    def test_all_short_lines(self):
        """All lines of up to four of these characters"""
        for size in range(5):
            for signs in itertools.product(" a~\t", repeat=size):
                line = "".join(signs)
                wrong = not line or line[0] == " " or line[-1] == " " or "  " in line or "\t" in line
                self.assertEqual(words_of(line), None if wrong else line.split())

    def test_names(self):
        for word in ("a", "z", "abcdefghijkl", "zzzzzzzzzzzz"):
            self.assertIs(is_name(word), True)
        for word in ("", "abcdefghijklm", "A", "a1", "1", "a b", " a", "a\n", "\u00e9", "a_", "`", "{", "aB"):
            self.assertIs(is_name(word), False, word)

    def test_numbers(self):
        for number in range(100):
            self.assertEqual(number_in(str(number)), number)
        for word in ("", "00", "01", "007", "100", "-1", "-0", "+1", "1.0", " 1", "1 ", "1\n", "a", "\u0663", "1_0", "0x1", "\u00b2"):
            self.assertIsNone(number_in(word), word)

    def test_new_list(self):
        words_of("a b").clear()
        self.assertEqual(words_of("a b"), ["a", "b"])


if __name__ == "__main__":
    unittest.main()
