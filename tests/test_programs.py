import unittest

from coheir.errors import BadNumber, NotProgram
from coheir.programs import (
    accesses, beginning, check_program, is_program, lines_of, with_cores, with_lines,
)

EXAMPLE = ((("store", 0, 1), ("load", 1)), (("store", 1, 1), ("load", 0)))
MIXED = ((("swap", 2, 9), ("fence",), ("load", 2), ("store", 0, 99)), (), (("load", 0), ("store", 2, 1)))
FULL = ((("fence",),) * 24,) * 12
WRONG = ((("load", 4),),)


class FormTests(unittest.TestCase):
    """[150]"""

    def test_programs(self):
        for program in (EXAMPLE, MIXED, FULL, ((),), ((),) * 12):
            self.assertIs(is_program(program), True)
            self.assertIsNone(check_program(program))

    def test_numbers_of_cores(self):
        self.refused(())
        self.refused(((),) * 13)

    def test_numbers_of_instructions(self):
        for count in (0, 1, 23, 24):
            self.assertTrue(is_program(((), (("load", 0),) * count)))
        self.refused(((), (("load", 0),) * 25))
        self.refused(((("fence",),) * 25,) + FULL[1:])

    def test_lines_and_values(self):
        for line in (0, 1, 2, 3):
            for instruction in (("load", line), ("store", line, 1), ("swap", line, 99)):
                self.assertTrue(is_program(((instruction,),)))
        for line in (-1, 4, 10 ** 30, True, False):
            for instruction in (("load", line), ("store", line, 1), ("swap", line, 99)):
                self.refused(((instruction,),))
        for value in (0, 100, -1, 10 ** 30, True):
            for word in ("store", "swap"):
                self.refused(((("fence",), (word, 0, value)),))

    def test_words_and_parts(self):
        for instruction in (
            ("load",), ("store",), ("swap",), ("",), ("fences",), ("fence", 0), ("store", 0), ("swap", 0), ("x", 0),
            ("load", 0, 1), ("fence", 0, 1), ("stores", 0, 1), ("Load", 0), ("", 1, 1),
        ):
            self.refused(((), (instruction,)))

    def refused(self, program):
        self.assertIs(is_program(program), False)
        with self.assertRaises(NotProgram):
            check_program(program)


class AccessTests(unittest.TestCase):
    """[151]"""

    def test_accesses(self):
        self.assertEqual(accesses(EXAMPLE, 0), [(0, 0), (1, 1)])
        self.assertEqual(accesses(EXAMPLE, 1), [(0, 1), (1, 0)])
        self.assertEqual(accesses(EXAMPLE, 3), [])
        self.assertEqual(accesses(MIXED, 2), [(0, 0), (0, 2), (2, 1)])
        self.assertEqual(accesses(MIXED, 0), [(0, 3), (2, 0)])
        self.assertEqual(accesses(FULL, 0), [])

    def test_a_value_is_no_line(self):
        self.assertEqual(accesses(((("store", 0, 3), ("swap", 1, 2)),), 3), [])
        self.assertEqual(accesses(((("store", 0, 3), ("swap", 1, 2)),), 2), [])

    def test_lines(self):
        self.assertEqual(lines_of(EXAMPLE), [0, 1])
        self.assertEqual(lines_of(MIXED), [0, 2])
        self.assertEqual(lines_of(FULL), [])
        self.assertEqual(lines_of(((("load", 3), ("load", 1), ("swap", 0, 2)),)), [0, 1, 3])

    def test_errors(self):
        for line in (-1, 4, 10 ** 30):
            with self.assertRaises(BadNumber):
                accesses(EXAMPLE, line)
        with self.assertRaises(NotProgram):
            accesses(WRONG, 4)
        with self.assertRaises(NotProgram):
            lines_of(WRONG)

    def test_lists_are_new(self):
        accesses(EXAMPLE, 0).clear()
        lines_of(EXAMPLE).clear()
        self.assertEqual(accesses(EXAMPLE, 0), [(0, 0), (1, 1)])
        self.assertEqual(lines_of(EXAMPLE), [0, 1])


class ChangeTests(unittest.TestCase):
    """[152]"""

    def test_lines(self):
        self.assertEqual(with_lines(EXAMPLE, (0, 1, 2, 3)), EXAMPLE)
        self.assertEqual(
            with_lines(MIXED, (3, 0, 1, 2)),
            ((("swap", 1, 9), ("fence",), ("load", 1), ("store", 3, 99)), (), (("load", 3), ("store", 1, 1))),
        )
        for lines in ((0, 1, 2), (0, 1, 2, 3, 4), (0, 1, 2, 4), (1, 2, 3, 4), (0, 0, 1, 2), (0, 1, 2, -1), ()):
            with self.assertRaises(BadNumber):
                with_lines(EXAMPLE, lines)
        with self.assertRaises(NotProgram):
            with_lines(WRONG, ())

    def test_cores(self):
        self.assertEqual(with_cores(EXAMPLE, (0, 1)), EXAMPLE)
        self.assertEqual(with_cores(EXAMPLE, (1, 0)), (EXAMPLE[1], EXAMPLE[0]))
        self.assertEqual(with_cores(MIXED, (2, 0, 1)), (MIXED[2], MIXED[0], MIXED[1]))
        for order in ((0,), (0, 1, 2), (0, 0), (1, 2), (0, -1), ()):
            with self.assertRaises(BadNumber):
                with_cores(EXAMPLE, order)
        with self.assertRaises(NotProgram):
            with_cores(WRONG, (5,))

    def test_beginnings(self):
        self.assertEqual(beginning(EXAMPLE, (2, 2)), EXAMPLE)
        self.assertEqual(beginning(EXAMPLE, (0, 1)), ((), (("store", 1, 1),)))
        self.assertEqual(beginning(MIXED, (3, 0, 1)), (MIXED[0][:3], (), MIXED[2][:1]))
        for counts in ((0,), (0, 0, 0), (3, 0), (0, 3), (-1, 0), (0, -10 ** 30), (10 ** 30, 0), ()):
            with self.assertRaises(BadNumber):
                beginning(EXAMPLE, counts)
        with self.assertRaises(NotProgram):
            beginning(WRONG, (5, 5))


if __name__ == "__main__":
    unittest.main()
