"""Papers of orders, looked at without any search."""

from coheir.checkforms import has_parts
from coheir.checkprograms import reads_among


def is_pair(value):
    """Tell whether a value is a pair of integers."""
    return has_parts(value, 2) and type(value[0]) is int and type(value[1]) is int


def made_in(program, observation):
    """Return a dict from the events of an observation to their instructions."""
    found = {}
    for c, (made, _) in enumerate(observation):
        for i in range(made):
            found[(c, i)] = program[c][i]
    return found


def value_told(program, observation, event):
    """Return the value that an event was told."""
    return observation[event[0]][1][reads_among(program[event[0]], event[1])]


def sources_in(made, paper):
    """Return the dict of the sources of a paper, or None if it has not one for each event that reads, ascending."""
    if not has_parts(paper, 2) or not isinstance(paper[0], tuple):
        return None
    for entry in paper[0]:
        if not has_parts(entry, 2) or not is_pair(entry[0]) or not is_pair(entry[1]):
            return None
    readers = [event for event in made if made[event][0] in ("load", "swap")]
    if [event for event, _ in paper[0]] != readers:
        return None
    return {event: source for event, source in paper[0]}


def are_lines(made, lines):
    """Tell whether a tuple has, for each line, the events that write it, each once."""
    if not has_parts(lines, 4):
        return False
    for line, row in enumerate(lines):
        writers = [event for event in made if made[event][0] in ("store", "swap") and made[event][1] == line]
        if not isinstance(row, tuple) or not all(is_pair(event) for event in row) or sorted(row) != writers:
            return False
    return True


def is_fitting(program, observation, made, sources, lines):
    """Tell whether each event that reads finds its value at its source, and swaps stand just behind it."""
    for event in sources:
        source = sources[event]
        value = value_told(program, observation, event)
        line = made[event][1]
        if source == (-1, -1):
            if value != 0:
                return False
        elif source == event or source not in lines[line] or made[source][2] != value:
            return False
        if made[event][0] == "swap" and before_in(lines[line], event) != source:
            return False
    return True


def before_in(row, event):
    """Return the event just ahead of another one in the order of its line, or that of the beginning."""
    at = row.index(event)
    return row[at - 1] if at > 0 else (-1, -1)


def does_explain(program, observation, paper, order):
    """Tell whether a paper explains an observation by an order."""
    made = made_in(program, observation)
    sources = sources_in(made, paper)
    if sources is None or not are_lines(made, paper[1]):
        return False
    if not is_fitting(program, observation, made, sources, paper[1]):
        return False
    shared = steps_of_lines(made, sources, paper[1])
    one = shared + [(sources[event], event) for event in sources] + core_steps(made, order, True)
    across = [(sources[event], event) for event in sources if order == "plain" or sources[event][0] != event[0]]
    return is_open(made, one) and is_open(made, shared + across + core_steps(made, order, False))


def steps_of_lines(made, sources, lines):
    """Return the steps from each writer to the next one, and from each load to the first writer behind its source.

    All other pairs of the lines and of reading are made of several of these steps.
    """
    found = []
    for row in lines:
        found.extend([(row[at], row[at + 1]) for at in range(len(row) - 1)])
    for event in sources:
        if made[event][0] == "load":
            row = lines[made[event][1]]
            source = sources[event]
            at = 0 if source == (-1, -1) else row.index(source) + 1
            found.extend([(event, other) for other in row[at:at + 1]])
    return found


def core_steps(made, order, by_lines):
    """Return the pairs of a core that keep their order: those of one line, or those that the order keeps."""
    found = []
    for one in made:
        closed = False
        at = (one[0], one[1] + 1)
        while at in made:
            early, late = made[one], made[at]
            if by_lines:
                keeps = len(early) > 1 and early[1:2] == late[1:2]
            else:
                keeps = order == "plain" or closed or early[0] != "store" or late[0] != "load"
            if keeps:
                found.append((one, at))
            closed = closed or late[0] in ("swap", "fence")
            at = (at[0], at[1] + 1)
    return found


def is_open(made, steps):
    """Tell whether no steps lead round: events that nothing is left ahead of are taken away, one by one."""
    behind = {event: [] for event in made}
    ahead = {event: 0 for event in made}
    for one, other in steps:
        if one != (-1, -1):
            behind[one].append(other)
            ahead[other] += 1
    free = [event for event in made if ahead[event] == 0]
    taken = 0
    while free:
        event = free.pop()
        taken += 1
        for other in behind[event]:
            ahead[other] -= 1
            if ahead[other] == 0:
                free.append(other)
    return taken == len(made)
