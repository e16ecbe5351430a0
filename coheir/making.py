"""Programs made out of faults: a program whose sight on the machine of a table is not buffered, with a proof."""

from coheir.coherence import found_pass, run_of
from coheir.effects import Effects
from coheir.errors import NoAnswer, TooLarge
from coheir.layers import Layers
from coheir.lineplay import has_right, play
from coheir.plain import check_observation
from coheir.programs import MOST_CORES, MOST_INSTRUCTIONS, MOST_VALUE
from coheir.proofs import is_right_proof
from coheir.tables import check_table


def sight_proved(program, observation, proof):
    """Tell whether a proof is right for an observation."""
    check_observation(program, observation)
    return is_right_proof(program, observation, proof)


def made_program(table):
    """Return the program, the run and the proof that are made of a bad run, or None if the table is coherent."""
    check_table(table)
    layers = Layers(Effects(table))
    count = layers.fewest()
    if count is None:
        return None
    bad = run_of(table, layers)
    return made_of(table, play(table, count, bad), bad, lambda writer, reader: pass_between(table, writer, reader))


def pass_between(table, writer, reader):
    """Return a passing run in which these caches store and load, or None."""
    passing = found_pass(table)
    if passing is None:
        return None
    caches = {0: writer, 1: reader, -1: -1}
    found = []
    for move in passing:
        if move[0] == "row":
            found.append(("row", move[1], caches[move[2]], caches[move[3]]))
        else:
            found.append(move[:1] + (caches[move[1]],) + move[2:])
    return found


def made_of(table, state, bad, find_pass):
    """Return the program, the run and the proof that are made of a bad run to a state.

    `find_pass` is called only if a flag is needed, with the caches that store and load.
    """
    stores = [move for move in bad if move[0] == "store"]
    cores, chain = cores_of(len(state[2]), stores)
    reader, copy = reader_of(table, state, stores[-1][2] if stores else 0)
    run = [line_move(0, move) for move in bad]
    word = "flag"
    if copy == -1:
        word, chain = "nothing", ()
    elif stores[-1][1] == reader:
        word = "behind"
    else:
        writer = stores[-1][1]
        run = run + with_flag(cores, writer, reader, find_pass(writer, reader))
    cores[reader].append(("load", 0))
    program = tuple([tuple(core) for core in cores])
    check_size(program)
    return (program, run + [("make", reader)], (word, chain, reader))


def cores_of(count, stores):
    """Return the cores, a swap on the line 0 for each store, and the swaps in the order in which they are made."""
    cores = [[] for _ in range(count)]
    chain = []
    for _, c, value in stores:
        chain.append((c, len(cores[c])))
        cores[c].append(("swap", 0, value))
    return cores, tuple(chain)


def reader_of(table, state, last):
    """Return the least cache that has a right and a copy that is not the last value, and this copy."""
    for k, (_, copy) in enumerate(state[2]):
        if has_right(table, state, k, 1) and copy != last:
            return k, copy
    return None


def line_move(line, move):
    """Return the move of the machine for one of the play of a line, whose stores are swaps."""
    return ("make", move[1]) if move[0] == "store" else ("row", line) + move[1:]


def with_flag(cores, writer, reader, passing):
    """Add a flag on the line 1 to two cores, and return the moves up to the reader's load of it."""
    if passing is None:
        raise NoAnswer("the table does not pass")
    cores[writer].append(("store", 1, 1))
    cores[reader].append(("load", 1))
    run = [("make", writer)]
    for move in passing:
        if move[0] == "store":
            run.append(("drain", writer))
        elif move[0] == "load":
            run.append(("make", reader))
        else:
            run.append(line_move(1, move))
    return run


def check_size(program):
    """Raise TooLarge if this is more than a program may have."""
    if len(program) > MOST_CORES or any(len(core) > MOST_INSTRUCTIONS for core in program):
        raise TooLarge("the program would have too many cores or instructions")
    values = [instruction[2] for core in program for instruction in core if len(instruction) == 3]
    if any(value > MOST_VALUE for value in values):
        raise TooLarge("a value would be too large")
