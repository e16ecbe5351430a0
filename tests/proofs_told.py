"""Proofs as [280] to [284] tell them, word by word, and right ones to break."""

import itertools
import random

# The chain (0, 0), (1, 0): the core 1 made the last swap, the core 2 was told its flag and then an old value.
FLAG_PROGRAM = (
    (("swap", 0, 5), ("store", 2, 9)),
    (("fence",), ("swap", 0, 7), ("store", 1, 3), ("load", 2)),
    (("load", 3), ("load", 1), ("load", 0), ("load", 0)),
)
FLAG_SEEN = ((1, (0,)), (3, (5,)), (3, (0, 3, 5)))
FLAG = ("flag", ((0, 0), (1, 1)), 2)

BEHIND_PROGRAM = ((("swap", 0, 5), ("store", 1, 1)), (("load", 2), ("fence",), ("swap", 0, 7), ("load", 0), ("load", 1)))
BEHIND_SEEN = ((1, (0,)), (4, (-4, 5, 5)))
BEHIND = ("behind", ((0, 0), (1, 2)), 1)

NOTHING_PROGRAM = ((("load", 2), ("load", 0)), (("store", 0, 4), ("swap", 0, 6), ("store", 2, 8)))
NOTHING_SEEN = ((2, (0, 8)), (0, ()))
NOTHING = ("nothing", (), 0)

# What is nearly a chain or a flag: a flag for the own core, a swap for a flag, a store in a chain.
OWN_FLAG = ((("swap", 0, 5), ("store", 1, 3), ("load", 1), ("load", 0)), (("load", 1), ("load", 0)))
OWN_FLAG_SEEN = ((4, (0, 3, 7)), (2, (3, 7)))
SWAP_FLAG = ((("swap", 0, 5), ("swap", 1, 3)), (("load", 1), ("load", 0)))
SWAP_FLAG_SEEN = ((2, (0, 0)), (2, (3, 7)))
STORE_CHAIN = ((("swap", 0, 5), ("store", 0, 7), ("load", 0)),)
STORE_CHAIN_SEEN = ((3, (0, 5)),)
NEARLY = (
    (OWN_FLAG, OWN_FLAG_SEEN, ("flag", ((0, 0),), 0), False), (OWN_FLAG, OWN_FLAG_SEEN, ("flag", ((0, 0),), 1), True),
    (OWN_FLAG, OWN_FLAG_SEEN, ("behind", ((0, 0),), 0), True), (OWN_FLAG, OWN_FLAG_SEEN, ("behind", ((0, 0),), 1), False),
    (OWN_FLAG[:1] + ((("load", 0), ("load", 1)),), ((2, (0,)), (1, (7,))), ("flag", ((0, 0),), 1), False),
    (SWAP_FLAG, SWAP_FLAG_SEEN, ("flag", ((0, 0),), 1), False),
    (STORE_CHAIN, STORE_CHAIN_SEEN, ("behind", ((0, 0), (0, 1)), 0), False),
    (STORE_CHAIN, STORE_CHAIN_SEEN, ("behind", ((0, 0),), 0), False),
)

CASES = ((FLAG_PROGRAM, FLAG_SEEN, FLAG), (BEHIND_PROGRAM, BEHIND_SEEN, BEHIND), (NOTHING_PROGRAM, NOTHING_SEEN, NOTHING))


def stores_on(program, line):
    return [(c, i) for c, core in enumerate(program) for i, told in enumerate(core)
            if told[0] in ("store", "swap") and told[1] == line]


def was_told(program, seen, c, i):
    """Return what a made instruction was told, None if it reads nothing or is not made."""
    if i < 0 or i >= seen[c][0] or program[c][i][0] not in ("load", "swap"):
        return None
    readers = [n for n in range(seen[c][0]) if program[c][n][0] in ("load", "swap")]
    return seen[c][1][readers.index(i)]


def is_right(program, seen, proof):
    """Tell whether a triple of the right form is right."""
    word, chain, reader = proof
    if not 0 <= reader < len(program):
        return False
    last = seen[reader][0] - 1
    told = was_told(program, seen, reader, last)
    if word == "nothing":
        if chain or last < 0 or program[reader][last][0] != "load":
            return False
        values = [program[c][i][2] for c, i in stores_on(program, program[reader][last][1])]
        return told != 0 and told not in values
    if word not in ("behind", "flag") or not chain or sorted(chain) != stores_on(program, 0):
        return False
    before = 0
    values = []
    for c, i in chain:
        if program[c][i][0] != "swap" or i >= seen[c][0] or was_told(program, seen, c, i) != before:
            return False
        before = program[c][i][2]
        values.append(before)
    if len(set(values)) < len(values) or last < 0 or program[reader][last] != ("load", 0) or told == before:
        return False
    c, i = chain[-1]
    if word == "behind":
        return reader == c and last > i
    if reader == c or i + 1 >= seen[c][0] or program[c][i + 1][:2] != ("store", 1) or stores_on(program, 1) != [(c, i + 1)]:
        return False
    return last >= 1 and program[reader][last - 1] == ("load", 1) and \
        was_told(program, seen, reader, last - 1) == program[c][i + 1][2]


def broken_ones():
    """Return programs, observations and proofs with one thing changed, of each of the three right ones."""
    found = []
    for program, seen, proof in CASES:
        for word, chain, reader in itertools.product(
                ("nothing", "behind", "flag", "Flag", ""),
                {proof[1], (), proof[1][::-1], proof[1][1:], proof[1][:-1], proof[1] * 2, proof[1] + ((0, 1),),
                 ((0, 0),), ((1, 1),), ((1, 2),), ((9, 0),), ((0, 9),), ((-1, 0),), ((0, -1),), ((1, 1), (0, 9))},
                (-1, 0, 1, 2, 3, 10 ** 20)):
            found.append((program, seen, (word, chain, reader)))
        for c, (made, told) in enumerate(seen):
            for at, value in itertools.product(range(len(told)), (0, 1, 3, 4, 5, 6, 7, 8, -1, 10 ** 20)):
                other = told[:at] + (value,) + told[at + 1:]
                found.append((program, seen[:c] + ((made, other),) + seen[c + 1:], proof))
            for count in range(len(program[c]) + 1):
                readers = sum(i[0] in ("load", "swap") for i in program[c][:count])
                other = (told + (5, 3, 7, 5))[:readers]
                found.append((program, seen[:c] + ((count, other),) + seen[c + 1:], proof))
        for c, core in enumerate(program):
            for i in range(len(core)):
                for told in (("load", 0), ("load", 1), ("store", 0, 5), ("store", 1, 3), ("store", 1, 4), ("store", 0, 4),
                             ("swap", 0, 5), ("swap", 0, 7), ("swap", 1, 3), ("swap", 1, 7), ("fence",)):
                    if (told[0] in ("load", "swap")) == (core[i][0] in ("load", "swap")):
                        found.append((program[:c] + (core[:i] + (told,) + core[i + 1:],) + program[c + 1:], seen, proof))
    return found


def random_ones(seed, count):
    """Return programs, observations and proofs with two or three things changed."""
    source = random.Random(seed)
    return [with_changes(source, *source.choice(CASES)) for _ in range(count)]


def with_changes(source, program, seen, proof):
    for _ in range(source.randint(2, 3)):
        c = source.randrange(len(program))
        kind = source.randrange(3)
        if kind == 0 and program[c]:
            i = source.randrange(len(program[c]))
            reads = program[c][i][0] in ("load", "swap")
            told = source.choice((("load", 0), ("load", 1), ("swap", 0, 8), ("swap", 0, 7)) if reads
                                 else (("store", 1, 3), ("store", 3, 3), ("fence",)))
            program = program[:c] + (program[c][:i] + (told,) + program[c][i + 1:],) + program[c + 1:]
        elif kind == 1 and seen[c][1]:
            at = source.randrange(len(seen[c][1]))
            told = seen[c][1][:at] + (source.choice((0, 3, 5, 7, 8)),) + seen[c][1][at + 1:]
            seen = seen[:c] + ((seen[c][0], told),) + seen[c + 1:]
        else:
            proof = (source.choice(("nothing", "behind", "flag")), source.choice((proof[1], (), ((1, 1), (0, 0)))), proof[2])
    return program, seen, proof
