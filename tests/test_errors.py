import unittest

from coheir import errors

WITH_MESSAGE = (
    "NotTable", "NotProgram", "NotState", "NotStand", "NotHeap", "NotObservation",
    "BadNumber", "NoAnswer", "TooLarge", "OpenTrial",
)


class ErrorTests(unittest.TestCase):
    def test_base(self):
        self.assertEqual(errors.CoheirError.__bases__, (ValueError,))

    def test_each_is_directly_below_the_base(self):
        for name in WITH_MESSAGE + ("Malformed", "BadMove", "BadJournal"):
            self.assertEqual(getattr(errors, name).__bases__, (errors.CoheirError,), name)

    def test_messages(self):
        for name in WITH_MESSAGE:
            self.assertEqual(str(getattr(errors, name)("why")), "why")

    def test_numbers(self):
        self.assertEqual(errors.Malformed(3).at, 3)
        self.assertEqual(errors.BadMove(0).at, 0)
        self.assertEqual(errors.BadJournal(10 ** 30).row, 10 ** 30)
        for name in ("Malformed", "BadMove", "BadJournal"):
            self.assertTrue(str(getattr(errors, name)(7)))


if __name__ == "__main__":
    unittest.main()
