"""The events of an observation, and what they read and write."""

from coheir.programs import does_read, does_write

BEGINNING = (-1, -1)


class Events:
    """The events of an observation: their instructions, and what is told by those that read.

    Both are dicts from events, in ascending order.
    """

    def __init__(self, program, observation):
        self.made = [made for made, _ in observation]
        self.instructions = {}
        self.told = {}
        for c, (made, told) in enumerate(observation):
            readers = []
            for i, instruction in enumerate(program[c][:made]):
                self.instructions[(c, i)] = instruction
                if does_read(instruction):
                    readers.append((c, i))
            for event, value in zip(readers, told):
                self.told[event] = value

    def line(self, event):
        """Return the line of an event, or None for a fence."""
        instruction = self.instructions[event]
        return None if instruction[0] == "fence" else instruction[1]

    def word(self, event):
        """Return the first word of the instruction of an event."""
        return self.instructions[event][0]

    def writers(self, line):
        """Return the ascending list of the events that write a line."""
        return [event for event in self.instructions if self.has_written(event) and self.line(event) == line]

    def has_written(self, event):
        """Tell whether a pair is an event that writes."""
        return event in self.instructions and does_write(self.instructions[event])

    def value(self, event):
        """Return what an event writes."""
        return self.instructions[event][2]

    def in_core(self):
        """Return the ascending list of the pairs of events of one core, the earlier one first."""
        return [
            ((c, i), (c, j)) for c, made in enumerate(self.made) for i in range(made) for j in range(i + 1, made)
        ]
