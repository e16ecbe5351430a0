"""A desk that answers lines of text about tables, programs and plays."""

from coheir.commands import (
    form_of, names_in, numbers_of_program, numbers_of_table, text_of_thing, told_in, told_of_play, told_of_program,
    told_of_table,
)
from coheir.errors import BadMove, BadNumber, CoheirError
from coheir.fences import with_fences
from coheir.lineplay import line_begin, line_behind
from coheir.lines import words_of
from coheir.making import made_program
from coheir.progtexts import read_program
from coheir.samples import forgetful, mesi, mosi, msi
from coheir.tables import without_rows
from coheir.tabletexts import read_table


class Desk:
    """Tables, programs and plays by their names; each with its letter, T, G or P."""

    def __init__(self):
        self.things = {}

    def copied(self):
        """Return a desk of its own that has the same things."""
        other = Desk()
        other.things = {name: self.things[name] for name in self.things}
        return other

    def answers(self, lines):
        """Return the list of the answers to several lines, in order."""
        return [self.answer(line) for line in lines]

    def names(self):
        """Return the sorted list of the names that have something."""
        return sorted(self.things)

    def thing(self, name):
        """Return the table or the program of a name, the table and the state of a play, or None."""
        return self.things[name][1] if name in self.things else None

    def answer(self, line):
        """Return the answer to a line."""
        words = words_of(line)
        form = None if words is None else form_of(words)
        if form is None:
            return "bad"
        wanted = names_in(form, words)
        for _, word in wanted:
            if word not in self.things:
                return f"unknown {word}"
        if any(letter not in ("L", self.things[word][0]) for letter, word in wanted):
            return "refused"
        try:
            return self.operate(form, words)
        except CoheirError:
            return "refused"

    def operate(self, form, words):
        """Do what a line of a form tells, and return the answer."""
        word = words[0]
        if form[0] == "N":
            return self.put(words)
        letter, thing = self.things[words[1]]
        if word == "drop":
            self.things.pop(words[1])
            return "ok"
        if word == "show":
            return text_of_thing(letter, thing)
        if word in ("row", "load", "store"):
            return self.move(words, thing)
        if letter == "P":
            return told_of_play(word, thing)
        return told_of_program(word, thing) if letter == "G" else told_of_table(word, thing, told_in(words))

    def put(self, words):
        """Put what a line tells under its new name."""
        word, name = words[:2]
        if word == "play":
            self.things[name] = ("P", (self.thing(words[2]), line_begin(told_in(words)[0])))
            return "ok"
        if word in ("table", "sample", "cut", "forget"):
            table = self.table_for(words)
            self.things[name] = ("T", table)
            return numbers_of_table(table)
        program = self.program_for(words)
        if program is None:
            return "coherent"
        self.things[name] = ("G", program)
        return numbers_of_program(program)

    def table_for(self, words):
        """Return the table that a line tells."""
        word = words[0]
        if word == "table":
            return read_table(" ".join(words[2:]))
        if word == "sample":
            return sample_called(words[2])
        table = self.thing(words[2])
        if word == "cut":
            return without_rows(table, told_in(words))
        return forgetful(table, told_in(words)[0])

    def program_for(self, words):
        """Return the program that a line tells, or None if it is made out of a coherent table."""
        word = words[0]
        if word == "program":
            return read_program(" ".join(words[2:]))
        thing = self.thing(words[2])
        if word == "fence":
            return with_fences(thing, [tuple(told_in(words))])
        made = made_program(thing)
        return None if made is None else made[0]

    def move(self, words, thing):
        """Make a move of a play, and return the answer."""
        table, state = thing
        told = tuple(told_in(words))
        if words[0] == "row" and len(told) == 2:
            told = told + (-1,)
        behind = line_behind(table, state, (words[0],) + told)
        if behind is None:
            raise BadMove(0)
        self.things[words[1]] = ("P", (table, behind))
        return str(behind[2][told[0]][1]) if words[0] == "load" else "ok"


def sample_called(word):
    """Return the sample table with a name."""
    if word == "msi":
        return msi()
    if word == "mesi":
        return mesi()
    if word == "mosi":
        return mosi()
    raise BadNumber("there is no such sample table")
