import unittest

from coheir.errors import Malformed, NotProgram
from coheir.progtexts import read_program, text_of_program
from support import chance
from test_programs import EXAMPLE, FULL, MIXED, WRONG

TEXT = "core store 0 1 | load 1 core store 1 1 | load 0"


def random_program(source):
    """Return a program made by chance."""
    def instruction():
        word = source.choice(("load", "store", "swap", "fence"))
        line, value = source.randint(0, 3), source.randint(1, 99)
        return {"load": (word, line), "fence": (word,)}.get(word, (word, line, value))
    return tuple(
        tuple(instruction() for _ in range(source.randint(0, 24))) for _ in range(source.randint(1, 12))
    )


class TextTests(unittest.TestCase):
    """[153], [154], [155]"""

    def test_example(self):
        self.assertEqual(text_of_program(EXAMPLE), TEXT)
        self.assertEqual(read_program(TEXT), EXAMPLE)

    def test_texts(self):
        self.assertEqual(text_of_program(((),)), "core")
        self.assertEqual(
            text_of_program(MIXED), "core swap 2 9 | fence | load 2 | store 0 99 core core load 0 | store 2 1",
        )
        self.assertEqual(text_of_program(FULL), " ".join(["core " + " | ".join(["fence"] * 24)] * 12))

    def test_there_and_back(self):
        source = chance(71)
        for program in [random_program(source) for _ in range(100)] + [MIXED, FULL, ((),) * 12]:
            text = text_of_program(program)
            self.assertEqual(read_program(text), program)
            self.assertEqual(text_of_program(read_program(text)), text)

    def test_no_program(self):
        for program in (WRONG, (), ((),) * 13):
            with self.assertRaises(NotProgram):
                text_of_program(program)

    def test_too_early(self):
        words = TEXT.split(" ")
        whole = (1, 4, 7, 8, 11, 14)
        for count in range(1, len(words) + 1):
            text = " ".join(words[:count])
            if count in whole:
                self.assertEqual(text_of_program(read_program(text)), text)
            else:
                self.malformed(text, count)

    def test_wrong_words(self):
        words = "core store 0 1 | load 1 core swap 1 1 | fence".split(" ")
        for at in range(len(words)):
            for wrong in ("", "x", "-1", "00", "01", "4+", "100", "Core", "||", "\u0661"):
                self.malformed(" ".join(words[:at] + [wrong] + words[at + 1:]), at)

    def test_empty_words(self):
        self.malformed("", 0)
        self.malformed(" ", 0)
        self.malformed(" core", 0)
        self.malformed("core ", 1)
        self.malformed("core  load 0", 1)
        self.malformed("core load 0 ", 3)
        self.malformed("core\n", 0)
        self.malformed("core load 0\n", 2)

    def test_places(self):
        for text, at in (
            ("load 0", 0), ("core | load 0", 1), ("core load 0 load 1", 3), ("core load 0 | | load 1", 4),
            ("core load 0 | core", 4), ("core fence 0", 2), ("core fence fence", 2), ("core load 0 1", 3),
            ("core store 0 | load 1", 3), ("core store core", 2), ("core 0", 1), ("core load load", 2),
        ):
            self.malformed(text, at)

    def test_lines_and_values(self):
        for line in ("0", "1", "2", "3"):
            for value in ("1", "9", "10", "99"):
                self.assertEqual(read_program(f"core swap {line} {value}"), ((("swap", int(line), int(value)),),))
        for line in ("4", "-1", "+1", "00", "03", "10", "", "x"):
            for word in ("load", "store", "swap"):
                self.malformed(f"core {word} {line} 1", 2)
        for value in ("0", "100", "01", "099", "-1", "+1", "1.", "", "x", "core"):
            for word in ("store", "swap"):
                self.malformed(f"core {word} 3 {value}", 3)

    def test_numbers(self):
        self.assertEqual(len(read_program(" ".join(["core"] * 12))), 12)
        self.malformed(" ".join(["core"] * 13), 12)
        self.malformed(" ".join(["core load 0"] * 13), 36)
        many = "core " + " | ".join(["fence"] * 24)
        self.assertEqual(len(read_program(many)[0]), 24)
        self.malformed(many + " | fence", 48)
        self.malformed(many + " |", 48)
        self.assertEqual(read_program(many + " core fence | fence")[1], (("fence",), ("fence",)))

    def malformed(self, text, at):
        with self.assertRaises(Malformed) as caught:
            read_program(text)
        self.assertEqual(caught.exception.at, at, text)


if __name__ == "__main__":
    unittest.main()
