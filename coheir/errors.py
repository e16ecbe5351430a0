"""The errors that the program raises."""


class CoheirError(ValueError):
    """The base class of all errors of this program."""


class NotTable(CoheirError):
    """What was told is no table."""


class NotProgram(CoheirError):
    """What was told is no program."""


class NotState(CoheirError):
    """What was told is no state."""


class NotStand(CoheirError):
    """What was told is no stand."""


class NotHeap(CoheirError):
    """What was told is no heap."""


class NotObservation(CoheirError):
    """What was told is no observation of the program."""


class BadNumber(CoheirError):
    """A number is none of those that can be told here."""


class NoAnswer(CoheirError):
    """There is nothing that could be returned."""


class TooLarge(CoheirError):
    """A limit is passed."""


class OpenTrial(CoheirError):
    """A trial is open."""


class Malformed(CoheirError):
    """A text has a word that cannot stand at its place, or ends too early."""

    def __init__(self, at):
        super().__init__(f"the text is malformed at the word {at}")
        self.at = at


class BadMove(CoheirError):
    """A move of a list is not allowed."""

    def __init__(self, at):
        super().__init__(f"the move {at} is not allowed")
        self.at = at


class BadJournal(CoheirError):
    """A row of a journal's text is wrong."""

    def __init__(self, row):
        super().__init__(f"the journal is wrong at the row {row}")
        self.row = row
