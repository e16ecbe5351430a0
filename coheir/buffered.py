"""The buffered order: stores wait in the buffer of their core, and leave it in their order."""

from coheir.buffers import begin_waiting, behind_drain, behind_make, has_form, is_whole_end, seen_in, stores_open
from coheir.errors import NoAnswer, NotState
from coheir.plain import check_observation
from coheir.programs import check_program
from coheir.search import is_move, moved_by, played, run_to, states_from
from coheir.whole import is_whole


def begin_buffered(program):
    """Return the state at the beginning."""
    check_program(program)
    return begin_waiting(program)


def is_buffered_state(program, state):
    """Tell whether a tuple is a buffered state of the program, whether a run leads there or not."""
    check_program(program)
    if not has_form(program, state):
        return False
    return all(can_wait(core, made, waiting) for core, (made, waiting, _) in zip(program, state[1]))


def can_wait(core, made, waiting):
    """Tell whether a tuple has the last ones of the stores that can wait in a core."""
    if not isinstance(waiting, tuple) or not all(are_whole(store) for store in waiting):
        return False
    stores = stores_open(core, made)
    return len(waiting) <= len(stores) and list(waiting) == stores[len(stores) - len(waiting):]


def are_whole(parts):
    """Tell whether a value is a tuple of integers."""
    return isinstance(parts, tuple) and all(is_whole(part) for part in parts)


def check_buffered_state(program, state):
    """Raise NotState if a tuple is no buffered state of the program."""
    if not is_buffered_state(program, state):
        raise NotState("this is no buffered state of the program")


def buffered_moves(program, state):
    """Return the list of the moves that are allowed: for each core make, then drain."""
    check_buffered_state(program, state)
    return [move for move, _ in buffered_followers(program, state)]


def buffered_followers(program, state):
    """Return the allowed moves, each with the state behind it."""
    found = []
    for c, core in enumerate(state[1]):
        behind = behind_make(program, state, c)
        if behind is not None:
            found.append((("make", c), behind))
        if core[1]:
            found.append((("drain", c), behind_drain(state, c, 0)))
    return found


def buffered_behind(program, state, move):
    """Return the state behind a move, or None if it is not allowed."""
    if is_move(program, move, "make", 2):
        return behind_make(program, state, move[1])
    if is_move(program, move, "drain", 2) and state[1][move[1]][1]:
        return behind_drain(state, move[1], 0)
    return None


def buffered_moved(program, state, move):
    """Return the state behind a move."""
    check_buffered_state(program, state)
    return moved_by(program, state, move, buffered_behind)


def buffered_play(program, moves):
    """Return the state to which a buffered run leads."""
    return played(program, begin_buffered(program), moves, buffered_behind)


def buffered_found(program):
    """Return the dict of all buffered states that can come, each with the way to it."""
    return states_from(program, begin_buffered(program), buffered_followers)


def buffered_states(program):
    """Return the ascending list of all states that can come."""
    return sorted(buffered_found(program))


def buffered_observations(program):
    """Return the ascending list of the whole buffered observations."""
    found = buffered_found(program)
    return sorted(set([seen_in(cores) for _, cores in found if is_whole_end(program, cores)]))


def buffered_run(program, observation):
    """Return a buffered run to a state with the observation."""
    check_observation(program, observation)
    found = buffered_found(program)
    for state in found:
        if seen_in(state[1]) == observation:
            return run_to(found, state)
    raise NoAnswer("the observation is not buffered")
