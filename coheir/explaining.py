"""From runs to papers that explain what they lead to, and back."""

from coheir.buffered import buffered_play, buffered_run
from coheir.buffers import seen_in
from coheir.errors import NoAnswer
from coheir.events import BEGINNING, Events
from coheir.loose import loose_play, loose_run
from coheir.plain import check_observation, plain_play, plain_run
from coheir.programs import check_program, does_read, does_write
from coheir.relations import check_order, explains, pairs_whole
from coheir.rounds import in_a_row

ALL_LINES = (0, 1, 2, 3)


class Traces:
    """What a run leaves on its way: the sources of what reads, and the writers of each line in order."""

    def __init__(self, program, order):
        self.program = program
        self.order = order
        self.made = [0] * len(program)
        self.waiting = [[] for _ in program]
        self.rows = [[], [], [], []]
        self.sources = {}

    def line(self, event):
        """Return the line of an event that reads or writes."""
        return self.program[event[0]][event[1]][1]

    def source(self, event):
        """Return the event whose value an event finds."""
        line = self.line(event)
        own = [other for other in self.waiting[event[0]] if self.line(other) == line]
        found = own if own else self.rows[line]
        return found[-1] if found else BEGINNING

    def make(self, c):
        """Follow the next instruction of a core."""
        event = (c, self.made[c])
        instruction = self.program[c][self.made[c]]
        self.made[c] += 1
        if does_read(instruction):
            self.sources[event] = self.source(event)
        if instruction[0] == "store" and self.order != "plain":
            self.waiting[c].append(event)
        elif does_write(instruction):
            self.rows[instruction[1]].append(event)

    def drain(self, c, lines):
        """Follow the oldest waiting store of one of these lines out of the buffer."""
        event = [other for other in self.waiting[c] if self.line(other) in lines][0]
        self.waiting[c].remove(event)
        self.rows[self.line(event)].append(event)

    def drain_all(self):
        """Let all that waits leave the buffers, the first core first, the oldest store first."""
        for c in range(len(self.program)):
            while self.waiting[c]:
                self.drain(c, ALL_LINES)

    def paper(self):
        """Return the paper that is read off."""
        sources = tuple([(event, self.sources[event]) for event in sorted(self.sources)])
        return (sources, tuple([tuple(row) for row in self.rows]))


def paper_of(program, moves, order):
    """Return the observation of the state to which a run leads, and the paper that is read off."""
    check_program(program)
    check_order(order)
    return (observation_behind(program, moves, order), paper_behind(program, moves, order))


def observation_behind(program, moves, order):
    """Return the observation of the state to which a run of an order leads."""
    if order == "plain":
        return plain_play(program, moves)[1]
    if order == "buffered":
        return seen_in(buffered_play(program, moves)[1])
    return seen_in(loose_play(program, moves)[1])


def paper_behind(program, moves, order):
    """Return the paper of a run whose moves are allowed."""
    traces = Traces(program, order)
    for move in moves:
        if move[0] == "make":
            traces.make(move[1])
        else:
            traces.drain(move[1], move[2:] if order == "loose" else ALL_LINES)
    traces.drain_all()
    return traces.paper()


def explanation(program, observation, order):
    """Return a run to a state with the observation, and a paper that explains it, or None."""
    check_observation(program, observation)
    check_order(order)
    try:
        moves = run_of(program, observation, order)
    except NoAnswer:
        return None
    return (moves, paper_behind(program, moves, order))


def run_of(program, observation, order):
    """Return a run of an order to a state with the observation."""
    if order == "plain":
        return plain_run(program, observation)
    if order == "buffered":
        return buffered_run(program, observation)
    return loose_run(program, observation)


def run_by(program, observation, paper, order):
    """Return a run to a state with the observation, made from a paper that explains it."""
    if not explains(program, observation, paper, order):
        raise NoAnswer("the paper does not explain the observation")
    events = Events(program, observation)
    row = in_a_row(list(events.instructions), pairs_whole(program, events, paper, order))
    return run_in_row(program, row, order)


def run_in_row(program, row, order):
    """Return the run in which a store leaves its buffer at its place in the row."""
    made = [0] * len(program)
    moves = []
    for c, i in row:
        while made[c] <= i:
            moves.append(("make", c))
            made[c] += 1
        if program[c][i][0] == "store" and order == "buffered":
            moves.append(("drain", c))
        if program[c][i][0] == "store" and order == "loose":
            moves.append(("drain", c, program[c][i][1]))
    return moves
