"""A journal: a desk whose lines and answers are recorded, with trials that can be taken back."""

from coheir.desk import Desk
from coheir.errors import BadJournal, OpenTrial

LINE_MARK = "> "
ANSWER_MARK = "< "


class Journal:
    """A desk of its own, and the recorded lines with their answers."""

    def __init__(self):
        self.desk = Desk()
        self.pairs = []
        self.on_trial = False
        self.stays = False
        self.desk_ahead = None
        self.pairs_ahead = None

    def answer(self, line):
        """Answer a line by the desk, and record both, if the line can be recorded."""
        if not can_record(line):
            return "bad"
        told = self.desk.answer(line)
        self.pairs.append((line, told))
        return told

    def record(self):
        """Return the record: two rows for each recorded line."""
        return "".join([f"{LINE_MARK}{line}\n{ANSWER_MARK}{told}\n" for line, told in self.pairs])

    def lines(self):
        """Return the list of the recorded lines."""
        return [line for line, _ in self.pairs]

    def keep(self):
        """Let all that is answered in the open trial stay."""
        if not self.on_trial:
            raise OpenTrial("no trial is open")
        self.stays = True

    def __enter__(self):
        if self.on_trial:
            raise OpenTrial("a trial is open already")
        self.on_trial = True
        self.stays = False
        # What is put away here is not changed in the trial, which goes on with copies.
        self.desk_ahead = self.desk
        self.pairs_ahead = self.pairs
        self.desk = self.desk.copied()
        self.pairs = list(self.pairs)
        return self

    def __exit__(self, kind, value, trace):
        if kind is not None or not self.stays:
            self.desk = self.desk_ahead
            self.pairs = self.pairs_ahead
        self.on_trial = False


def can_record(line):
    """Tell whether all characters of a line are from the space to `~`."""
    return all(" " <= sign <= "~" for sign in line)


def attempt(journal, lines, *, keep=False):
    """Answer lines in a trial, and return the answers and the record at the end of the trial."""
    with journal as trial:
        answers = [trial.answer(line) for line in lines]
        record = trial.record()
        if keep:
            trial.keep()
    return answers, record


def resume(text):
    """Return a journal that goes on from a record, which may have been cut off at any place."""
    rows = text.split("\n")[:-1]
    journal = Journal()
    for at in range(0, len(rows), 2):
        mark, line = rows[at][:2], rows[at][2:]
        if mark != LINE_MARK or not can_record(line):
            raise BadJournal(at)
        if at + 1 < len(rows) and rows[at + 1] != ANSWER_MARK + journal.answer(line):
            raise BadJournal(at + 1)
    return journal
