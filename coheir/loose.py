"""The loose order: a waiting store may leave the buffer ahead of an elder one of another line."""

from coheir.buffers import begin_waiting, behind_drain, behind_make, has_form, is_whole_end, seen_in, stores_open
from coheir.errors import NoAnswer, NotState
from coheir.plain import check_observation
from coheir.programs import check_program, is_line
from coheir.search import is_move, moved_by, played, run_to, states_from
from coheir.whole import is_tuple_of, is_whole


def begin_loose(program):
    """Return the state at the beginning."""
    check_program(program)
    return begin_waiting(program)


def is_loose_state(program, state):
    """Tell whether a tuple is a loose state of the program, whether a run leads there or not."""
    check_program(program)
    if not has_form(program, state):
        return False
    return all(can_wait_loosely(core, made, waiting) for core, (made, waiting, _) in zip(program, state[1]))


def can_wait_loosely(core, made, waiting):
    """Tell whether a tuple has, for each line, the last ones of the stores that can wait in a core."""
    if not isinstance(waiting, tuple) or not all(is_store(store) for store in waiting):
        return False
    left = [0, 0, 0, 0]
    for line, _ in waiting:
        left[line] += 1
    last = []
    for store in stores_open(core, made)[::-1]:
        if left[store[0]] > 0:
            left[store[0]] -= 1
            last.append(store)
    return last[::-1] == list(waiting)


def is_store(store):
    """Tell whether a value is a pair of a line and an integer."""
    return is_tuple_of(store, 2) and is_line(store[0]) and is_whole(store[1])


def check_loose_state(program, state):
    """Raise NotState if a tuple is no loose state of the program."""
    if not is_loose_state(program, state):
        raise NotState("this is no loose state of the program")


def loose_moves(program, state):
    """Return the list of the moves that are allowed: for each core make, then the drains by line."""
    check_loose_state(program, state)
    return [move for move, _ in loose_followers(program, state)]


def loose_followers(program, state):
    """Return the allowed moves, each with the state behind it."""
    found = []
    for c, core in enumerate(state[1]):
        waiting = core[1]
        behind = behind_make(program, state, c)
        if behind is not None:
            found.append((("make", c), behind))
        for line in sorted(set([where for where, _ in waiting])):
            found.append((("drain", c, line), behind_drain(state, c, oldest_of(waiting, line))))
    return found


def oldest_of(waiting, line):
    """Return the place of the oldest waiting store of a line, or None."""
    for at, (where, _) in enumerate(waiting):
        if where == line:
            return at
    return None


def loose_behind(program, state, move):
    """Return the state behind a move, or None if it is not allowed."""
    if is_move(program, move, "make", 2):
        return behind_make(program, state, move[1])
    if not is_move(program, move, "drain", 3) or not is_line(move[2]):
        return None
    at = oldest_of(state[1][move[1]][1], move[2])
    return None if at is None else behind_drain(state, move[1], at)


def loose_moved(program, state, move):
    """Return the state behind a move."""
    check_loose_state(program, state)
    return moved_by(program, state, move, loose_behind)


def loose_play(program, moves):
    """Return the state to which a loose run leads."""
    return played(program, begin_loose(program), moves, loose_behind)


def loose_found(program):
    """Return the dict of all loose states that can come, each with the way to it."""
    return states_from(program, begin_loose(program), loose_followers)


def loose_states(program):
    """Return the ascending list of all states that can come."""
    return sorted(loose_found(program))


def loose_observations(program):
    """Return the ascending list of the whole loose observations."""
    found = loose_found(program)
    return sorted(set([seen_in(cores) for _, cores in found if is_whole_end(program, cores)]))


def loose_run(program, observation):
    """Return a loose run to a state with the observation."""
    check_observation(program, observation)
    found = loose_found(program)
    for state in found:
        if seen_in(state[1]) == observation:
            return run_to(found, state)
    raise NoAnswer("the observation is not loose")
