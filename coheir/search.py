"""Runs of an order, move by move, and the search for all states that can come.

An order is told by functions: what is behind a move, or None, and which moves a state has,
each with the state behind it.
"""

from coheir.errors import BadMove, TooLarge
from coheir.whole import is_within

MOST_STATES = 20000


def is_move(program, move, word, size):
    """Tell whether a move has this word and size, and a core of the program behind the word."""
    return len(move) == size and move[0] == word and is_within(move[1], 0, len(program) - 1)


def moved_by(program, state, move, behind):
    """Return the state behind a move."""
    found = behind(program, state, move)
    if found is None:
        raise BadMove(0)
    return found


def played(program, begin, moves, behind):
    """Return the state to which a run leads from a state."""
    state = begin
    for at, move in enumerate(moves):
        state = behind(program, state, move)
        if state is None:
            raise BadMove(at)
    return state


def states_from(told, begin, followers):
    """Return a dict of all states that can come, in the order of the lengths of the runs to them.

    `followers` is called with what is told, a program or a table, and a state. Each state has the
    state ahead of it and the move between, the first one None.
    """
    found = {begin: None}
    layer = [begin]
    while layer:
        reached = []
        for state in layer:
            for move, behind in followers(told, state):
                if behind not in found:
                    found[behind] = (state, move)
                    reached.append(behind)
            if len(found) > MOST_STATES:
                raise TooLarge(f"more than {MOST_STATES} states can come")
        layer = reached
    return found


def run_to(found, state):
    """Return a shortest run to a state out of the dict of all states."""
    moves = []
    at = found[state]
    while at is not None:
        ahead, move = at
        moves.append(move)
        at = found[ahead]
    return moves[::-1]
