"""Papers of orders as the points tell them, word by word, for the tests."""

import itertools


def events(observation):
    return [(c, i) for c, (made, _) in enumerate(observation) for i in range(made)]


def reads(program, observation):
    """Return what each event that reads is told."""
    found = {}
    for c, (made, told) in enumerate(observation):
        readers = [i for i in range(made) if program[c][i][0] in ("load", "swap")]
        found.update({(c, i): value for i, value in zip(readers, told)})
    return found


def writers(program, observation, line):
    return [(c, i) for c, i in events(observation)
            if program[c][i][0] in ("store", "swap") and program[c][i][1] == line]


def at(program, event):
    return program[event[0]][event[1]]


def fits(program, observation, paper):
    """[202], for a paper of the right form"""
    sources, lines = paper
    told = reads(program, observation)
    for event, source in sources:
        if source == event:
            return False
        if source == (-1, -1):
            if told[event] != 0:
                return False
        elif source not in events(observation) or at(program, source)[0] not in ("store", "swap"):
            return False
        elif at(program, source)[1:] != (at(program, event)[1], told[event]):
            return False
        if at(program, event)[0] == "swap":
            row = lines[at(program, event)[1]]
            place = row.index(event)
            if (row[place - 1] if place > 0 else (-1, -1)) != source:
                return False
    return True


def kept(program, one, other, order):
    """[204]"""
    early, late = at(program, one), at(program, other)
    between = program[one[0]][one[1] + 1:other[1]]
    waits = early[0] == "store" and not any(i[0] in ("swap", "fence") for i in between)
    if order == "plain" or not waits:
        return True
    if order == "buffered":
        return late[0] != "load"
    return not (late[0] == "load" or (late[0] == "store" and late[1] != early[1]))


def relations(program, observation, paper, order):
    """Return the sets of both relations of [205]."""
    sources, lines = paper
    told = events(observation)
    source = {(s, e) for e, s in sources if s != (-1, -1)}
    line = {pair for row in lines for pair in itertools.combinations(row, 2)}
    reading = set()
    for e, s in sources:
        if at(program, e)[0] == "load":
            row = lines[at(program, e)[1]]
            reading |= {(e, w) for w in (row if s == (-1, -1) else row[row.index(s) + 1:])}
    core = {(a, b) for a in told for b in told if a[0] == b[0] and a[1] < b[1]}
    same = {(a, b) for a, b in core if at(program, a)[1:2] == at(program, b)[1:2] != ()}
    by_lines = source | line | reading | same
    if order != "plain":
        source = {(s, e) for s, e in source if s[0] != e[0]}
    return by_lines, line | reading | source | {pair for pair in core if kept(program, *pair, order)}


def has_round(pairs):
    """Look at all ways, step by step."""
    reached = set(pairs)
    while True:
        more = {(a, d) for a, b in reached for c, d in reached if b == c} - reached
        if not more:
            return any(a == b for a, b in reached)
        reached |= more


def explains(program, observation, paper, order):
    if not fits(program, observation, paper):
        return False
    return not any(has_round(pairs) for pairs in relations(program, observation, paper, order))


def all_papers(program, observation):
    """Return all papers whose sources are the beginning or events that write something."""
    told = sorted(reads(program, observation))
    writing = [event for line in range(4) for event in writers(program, observation, line)]
    orders = [list(itertools.permutations(writers(program, observation, line))) for line in range(4)]
    for sources in itertools.product([(-1, -1)] + writing, repeat=len(told)):
        for lines in itertools.product(*orders):
            yield (tuple(zip(told, sources)), lines)


def all_observations(program, values):
    """Return all observations of a program in which only these values are told."""
    cores = []
    for core in program:
        seen = []
        for made in range(len(core) + 1):
            count = sum(i[0] in ("load", "swap") for i in core[:made])
            seen.extend((made, told) for told in itertools.product(values, repeat=count))
        cores.append(seen)
    return list(itertools.product(*cores))
