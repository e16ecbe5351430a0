"""Runs: moves that are made one after the other."""

from coheir.errors import BadMove


def states_by(begin, moves, behind):
    """Return the list of the states on a run, both ends with it.

    `behind` returns the state behind a move of a state, or None if it is not allowed.
    """
    found = [begin]
    for at, move in enumerate(moves):
        state = behind(found[-1], move)
        if state is None:
            raise BadMove(at)
        found.append(state)
    return found
