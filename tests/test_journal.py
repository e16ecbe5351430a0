"""The journal, [350] to [354]"""

import unittest

from coheir.desk import Desk
from coheir.errors import BadJournal, CoheirError, OpenTrial
from coheir.journal import Journal, attempt, resume
from support import chance

LINES = ["sample a msi", "play p a 2", "row p 2 0", "store p 0 7", "row p 1 1 0", "load p 1", "caches p", "", "nothing", "load p 9"]
ANSWERS = ["3 2 7", "ok", "ok", "ok", "ok", "7", "1 7 / 1 7", "bad", "bad", "refused"]
RECORD = (
    "> sample a msi\n< 3 2 7\n> play p a 2\n< ok\n> row p 2 0\n< ok\n> store p 0 7\n< ok\n> row p 1 1 0\n< ok\n"
    "> load p 1\n< 7\n> caches p\n< 1 7 / 1 7\n> \n< bad\n> nothing\n< bad\n> load p 9\n< refused\n"
)
UNRECORDED = ("\n", "caches p\n", "\ncaches p", "caches\tp", "\t", "caches p\x7f", "\x1f", "caf\u00e9", "\x00", "a\r", "\u2028")


def told(journal, lines):
    return [journal.answer(line) for line in lines]


def full_journal():
    journal = Journal()
    told(journal, LINES)
    return journal


def answers_now(journal):
    """Return what the desk of a journal has, asked in a trial that is taken back."""
    lines = ["show a", "show p", "caches p", "home p", "show b", "show q", "caches q", "show n"]
    return attempt(journal, lines)[0]


class RecordTests(unittest.TestCase):
    """[350], [351]"""

    def test_new_one(self):
        journal = Journal()
        self.assertEqual((journal.record(), journal.lines()), ("", []))

    def test_example(self):
        journal = Journal()
        self.assertEqual(told(journal, LINES), ANSWERS)
        self.assertEqual(journal.record(), RECORD)
        self.assertEqual(journal.lines(), LINES)

    def test_as_a_desk(self):
        """The answers are those of a desk, and what it answers is in the record"""
        lines = LINES + ["sample a mesi", "show p", "show a", "forget b a 4", "unknown", "drop b", "show b", "cut a a 0 1 x"]
        journal, desk = Journal(), Desk()
        for line in lines:
            ahead = journal.record()
            answer = desk.answer(line)
            self.assertEqual(journal.answer(line), answer)
            self.assertEqual(journal.record(), f"{ahead}> {line}\n< {answer}\n")

    def test_the_empty_line(self):
        journal = Journal()
        self.assertEqual(journal.answer(""), "bad")
        self.assertEqual((journal.record(), journal.lines()), ("> \n< bad\n", [""]))

    def test_from_the_space_to_the_last_sign(self):
        journal = Journal()
        signs = [chr(code) for code in range(32, 127)]
        for sign in signs:
            self.assertEqual(journal.answer(sign), "bad")
        self.assertEqual(journal.lines(), signs)
        self.assertEqual(journal.record(), "".join(f"> {sign}\n< bad\n" for sign in signs))
        self.assertEqual(journal.answer("  sample a msi"), "bad")
        self.assertEqual(journal.lines()[-1], "  sample a msi")

    def test_no_others(self):
        """Below the space and above the last sign: bad, and nothing changes"""
        journal = full_journal()
        for code in list(range(32)) + [127, 128, 133, 160, 233, 0x2028, 0x1f600]:
            for line in (chr(code), "drop a" + chr(code), chr(code) + "drop a", "drop" + chr(code) + "a"):
                self.assertEqual(journal.answer(line), "bad")
        self.assertEqual((journal.record(), journal.lines()), (RECORD, LINES))
        self.assertEqual(journal.answer("show a")[:6], "rights")

    def test_a_desk_of_its_own(self):
        one, other = full_journal(), Journal()
        self.assertEqual(other.answer("show a"), "unknown a")
        one.answer("drop a")
        self.assertEqual(full_journal().answer("show p")[:6], "rights")

    def test_new_lists(self):
        journal = full_journal()
        journal.lines().clear()
        self.assertEqual(journal.lines(), LINES)


class ResumeTests(unittest.TestCase):
    """[352], [353]"""

    def wrong(self, text, row):
        with self.assertRaises(BadJournal) as caught:
            resume(text)
        self.assertEqual(caught.exception.row, row, repr(text))

    def check(self, text, many):
        """The journal has so many of the first lines, and goes on with the others"""
        journal = resume(text)
        self.assertIsInstance(journal, Journal)
        self.assertEqual(journal.lines(), LINES[:many])
        expected = "".join(f"> {line}\n< {answer}\n" for line, answer in list(zip(LINES, ANSWERS))[:many])
        self.assertEqual(journal.record(), expected)
        self.assertEqual(told(journal, LINES[many:]), ANSWERS[many:])
        self.assertEqual(journal.record(), RECORD)

    def test_whole(self):
        self.check(RECORD, len(LINES))
        self.assertEqual(resume("").record(), "")

    def test_cut_at_each_place(self):
        for end in range(len(RECORD) + 1):
            text = RECORD[:end]
            self.check(text, text.count("\n") // 2)

    def test_by_chance(self):
        """The longest record of whole pairs that is not longer than the cut text"""
        source = chance(1)
        commands = ["sample a msi", "sample b mesi", "forget c a 4", "play p a 2", "row p 2 0", "store p 0 5", "row p 1 1 0",
                    "load p 1", "drop a", "moves p", "caches p", "", " ", "~", "show p", "coherent c", "fewest c"]
        for _ in range(40):
            lines = [source.choice(commands) for _ in range(source.randint(0, 12))]
            journal = Journal()
            records, answers = [""], []
            for line in lines:
                answers.append(journal.answer(line))
                records.append(journal.record())
            end = source.randint(0, len(records[-1]))
            other = resume(records[-1][:end])
            many = max(at for at, record in enumerate(records) if len(record) <= end)
            self.assertEqual((other.record(), other.lines()), (records[many], lines[:many]))
            self.assertEqual(told(other, lines[many:]), answers[many:])
            self.assertEqual(other.record(), records[-1])

    def test_behind_the_last_newline(self):
        for rest in ("x", "> ", "> \t", "< no", "> drop a", " ", "\x7f", "\r"):
            self.assertEqual(resume(RECORD + rest).record(), RECORD)
            self.assertEqual(resume(rest).record(), "")

    def test_an_answer_is_missing(self):
        """The line is neither passed to the desk nor recorded, and yet looked at"""
        journal = resume(RECORD + "> drop a\n")
        self.assertEqual(journal.record(), RECORD)
        self.assertEqual(journal.answer("show a")[:6], "rights")
        self.assertEqual(resume("> \n").record(), "")
        self.assertEqual(resume("> \n< ba").record(), "")
        rows = RECORD.count("\n")
        for row in ("drop a", ">drop a", "< drop a", "", ">", " > a", ">  \t", "> drop\ta", "> a\x7f", "> a\r", "> caf\u00e9"):
            self.wrong(RECORD + row + "\n", rows)
            self.wrong(row + "\n", 0)

    def test_first_two_characters(self):
        rows = RECORD.split("\n")[:-1]
        for at, row in enumerate(rows):
            due = row[:2]
            for mark in ("", due[0], due[1], due[::-1], "< " if due == "> " else "> ", " " + due, due[0] + "\t", ">>", "<<"):
                if mark + row[2:] != row:
                    changed = rows[:at] + [mark + row[2:]] + rows[at + 1:]
                    self.wrong("\n".join(changed) + "\n", at)

    def test_lines_that_cannot_be_recorded(self):
        for line in UNRECORDED:
            if "\n" not in line:
                self.wrong(RECORD + f"> {line}\n< bad\n", RECORD.count("\n"))
                self.wrong(f"> {line}\n< bad\n", 0)

    def test_other_answers(self):
        rows = RECORD.split("\n")[:-1]
        for at in range(1, len(rows), 2):
            for answer in ("", "ok ", "Ok", "bad.", rows[at][2:] + " ", rows[at][2:-1], " " + rows[at][2:], "7 7"):
                self.wrong("\n".join(rows[:at] + ["< " + answer] + rows[at + 1:]) + "\n", at)

    def test_exchanged_twice_and_left_out(self):
        """The first row that is wrong is told"""
        rows = RECORD.split("\n")[:-1]
        for at in range(0, len(rows), 2):
            self.wrong("\n".join(rows[:at] + [rows[at + 1], rows[at]] + rows[at + 2:]) + "\n", at)
            self.wrong("\n".join(rows[:at] + [rows[at]] + rows[at:]) + "\n", at + 1)
            self.wrong("\n".join(rows[:at + 1] + [rows[at + 1]] + rows[at + 1:]) + "\n", at + 2)
            if at + 2 < len(rows):
                self.wrong("\n".join(rows[:at] + rows[at + 1:]) + "\n", at)
                self.wrong("\n".join(rows[:at + 1] + rows[at + 2:]) + "\n", at + 1)
        self.wrong("> sample a msi\n< 3 2 7\n> load p 1\n< 7\n> play p a 2\n< ok\n", 3)
        # Lines without what they rest on: the answer is that of a desk that does not know it.
        self.wrong("\n".join(rows[2:]) + "\n", 1)
        self.assertEqual(resume("\n".join(rows[:2] * 2) + "\n").lines(), LINES[:1] * 2)

    def test_earlier_than_later(self):
        self.wrong("> a\n< no\nx\n", 1)
        self.wrong("> \t\nx\n", 0)
        self.wrong("\n", 0)
        self.wrong("> \n\n", 1)
        self.wrong("> \n< bad\n\n\n", 2)

    def test_errors(self):
        self.assertTrue(issubclass(BadJournal, CoheirError))
        self.assertTrue(issubclass(OpenTrial, CoheirError))


class TrialTests(unittest.TestCase):
    """[354]"""

    CHANGES = ["row p 1 1 0", "row p 4 1", "store p 1 9", "sample a mesi", "forget b a 6", "play q b 1", "drop p", "x"]

    def setUp(self):
        self.journal = full_journal()
        self.before = answers_now(self.journal)

    def same(self):
        self.assertEqual((self.journal.record(), self.journal.lines()), (RECORD, LINES))
        self.assertEqual(answers_now(self.journal), self.before)

    def test_not_kept(self):
        with self.journal as trial:
            self.assertIs(trial, self.journal)
            answers = told(trial, self.CHANGES)
            self.assertEqual(trial.lines(), LINES + self.CHANGES)
            self.assertTrue(trial.record().startswith(RECORD + "> row p 1 1 0\n"))
            self.assertEqual(trial.answer("show p"), "unknown p")
        self.assertEqual(answers[3], "4 3 13")
        self.same()
        self.assertEqual(self.journal.answer("caches p"), "1 7 / 1 7")

    def test_kept(self):
        """Also what is answered behind `keep`"""
        other = full_journal()
        expected = told(other, self.CHANGES)
        with self.journal as trial:
            answers = told(trial, self.CHANGES[:3])
            self.assertIsNone(trial.keep())
            answers += told(trial, self.CHANGES[3:])
        self.assertEqual(answers, expected)
        self.assertEqual((self.journal.record(), self.journal.lines()), (other.record(), other.lines()))
        self.assertEqual(answers_now(self.journal), answers_now(other))
        self.assertEqual(self.journal.answer("show p"), "unknown p")

    def test_keep_alone(self):
        with self.journal:
            self.journal.keep()
            self.journal.keep()
        self.same()

    def test_an_exception_leaves(self):
        for keeps in (False, True):
            with self.assertRaises(ZeroDivisionError):
                with self.journal as trial:
                    told(trial, self.CHANGES)
                    if keeps:
                        trial.keep()
                    raise ZeroDivisionError
            self.same()
            with self.assertRaises(OpenTrial):
                self.journal.keep()

    def test_an_exception_within(self):
        """One that does not leave the statement takes nothing back"""
        with self.journal as trial:
            trial.keep()
            try:
                trial.answer("drop a")
                raise KeyError
            except KeyError:
                trial.answer("drop p")
        self.assertEqual(self.journal.lines(), LINES + ["drop a", "drop p"])

    def test_left_by_return(self):
        def leave(keeps):
            with self.journal as trial:
                trial.answer("drop a")
                if keeps:
                    trial.keep()
                return trial.answer("show a")

        self.assertEqual(leave(False), "unknown a")
        self.same()
        self.assertEqual(leave(True), "unknown a")
        self.assertEqual(self.journal.answer("show a"), "unknown a")

    def test_a_second_one_within(self):
        with self.journal as trial:
            trial.answer("drop a")
            with self.assertRaises(OpenTrial):
                with self.journal:
                    self.fail("no trial is opened")
            with self.assertRaises(OpenTrial):
                attempt(trial, ["drop p"], keep=True)
            self.assertEqual(trial.lines(), LINES + ["drop a"])
            self.assertEqual(trial.answer("show a"), "unknown a")
        self.same()
        with self.journal as trial:
            trial.answer("drop a")
            trial.keep()
            with self.assertRaises(OpenTrial):
                with trial:
                    pass
            trial.answer("drop p")
        self.assertEqual(self.journal.lines(), LINES + ["drop a", "drop p"])

    def test_the_second_one_leaves_the_first(self):
        """The error itself leaves the open trial here: all is taken back"""
        with self.assertRaises(OpenTrial):
            with self.journal as trial:
                trial.answer("drop a")
                trial.keep()
                with trial:
                    pass
        self.same()

    def test_keep_outside(self):
        with self.assertRaises(OpenTrial):
            Journal().keep()
        with self.journal:
            pass
        with self.assertRaises(OpenTrial):
            self.journal.keep()
        with self.journal as trial:
            trial.keep()
        with self.assertRaises(OpenTrial):
            self.journal.keep()
        self.same()

    def test_one_after_the_other(self):
        """A kept trial keeps no later one"""
        with self.journal as trial:
            trial.answer("sample b mesi")
            trial.keep()
        with self.journal as trial:
            trial.answer("drop b")
        with self.journal as trial:
            self.assertEqual(trial.answer("show b")[:14], "rights 0 1 1 2")
            trial.answer("drop a")
        self.assertEqual(self.journal.lines(), LINES + ["sample b mesi"])
        self.assertEqual(self.journal.answer("show a")[:12], "rights 0 1 2")

    def test_other_journals(self):
        """Each has its own trial"""
        other = Journal()
        with self.journal as trial:
            trial.answer("drop a")
            with other as second:
                second.answer("sample a mesi")
                second.keep()
            with self.assertRaises(OpenTrial):
                other.keep()
        self.same()
        self.assertEqual(other.lines(), ["sample a mesi"])

    def test_unrecorded_lines(self):
        with self.journal as trial:
            self.assertEqual(trial.answer("drop\ta"), "bad")
            trial.keep()
        self.same()

    def test_resumed_in_a_trial(self):
        with self.journal as trial:
            trial.answer("drop a")
            other = resume(trial.record())
        self.same()
        self.assertEqual(other.answer("show a"), "unknown a")
        with other as trial:
            trial.answer("sample a mesi")
        self.assertEqual(other.lines(), LINES + ["drop a", "show a"])


class AttemptTests(unittest.TestCase):
    def test_taken_back(self):
        journal = full_journal()
        before = answers_now(journal)
        lines = ["drop a", "sample b mesi", "drop\tb", "show b"]
        for answers, record in (attempt(journal, lines), attempt(journal, lines, keep=False)):
            self.assertEqual(answers[:3], ["ok", "4 3 13", "bad"])
            self.assertEqual(record, RECORD + "> drop a\n< ok\n> sample b mesi\n< 4 3 13\n> show b\n< " + answers[3] + "\n")
            self.assertEqual((journal.record(), answers_now(journal)), (RECORD, before))
        self.assertEqual(lines, ["drop a", "sample b mesi", "drop\tb", "show b"])

    def test_kept(self):
        journal = full_journal()
        answers, record = attempt(journal, ["drop a", "show a"], keep=True)
        self.assertEqual(answers, ["ok", "unknown a"])
        self.assertEqual(record, RECORD + "> drop a\n< ok\n> show a\n< unknown a\n")
        self.assertEqual(journal.record(), record)
        self.assertEqual(journal.answer("show a"), "unknown a")

    def test_no_lines(self):
        for keep in (False, True):
            self.assertEqual(attempt(Journal(), [], keep=keep), ([], ""))

    def test_open_trial(self):
        journal = full_journal()
        with journal as trial:
            for keep in (False, True):
                with self.assertRaises(OpenTrial):
                    attempt(journal, ["drop a"], keep=keep)
            trial.answer("drop p")
            trial.keep()
        self.assertEqual(journal.lines(), LINES + ["drop p"])
        with self.assertRaises(OpenTrial):
            journal.keep()

    def test_new_lists(self):
        journal = full_journal()
        attempt(journal, ["drop a"])[0].clear()
        self.assertEqual(attempt(journal, ["drop a"])[0], ["ok"])


class DeskTests(unittest.TestCase):
    """What a trial changes leaves the things of a desk as they were"""

    def test_things(self):
        journal = Journal()
        told(journal, ["sample a msi", "play p a 1", "forget b a 4"])
        desks = []
        with journal as trial:
            told(trial, ["row p 2 0", "store p 0 9", "sample b mesi", "drop a"])
            desks.append(trial.answer("caches p"))
        self.assertEqual(desks, ["2 9"])
        for line, answer in (("caches p", "0 -1"), ("coherent b", "no"), ("coherent a", "yes")):
            self.assertEqual(journal.answer(line), answer)


if __name__ == "__main__":
    unittest.main()
