"""The plain order: each instruction is made at once, on one memory."""

from coheir.errors import NoAnswer, NotObservation, NotState
from coheir.memories import BEGIN_MEMORY, is_memory, with_part
from coheir.programs import check_program, does_read, does_write
from coheir.search import is_move, moved_by, played, run_to, states_from
from coheir.whole import is_tuple_of, is_whole, is_within


def begin_plain(program):
    """Return the state at the beginning."""
    check_program(program)
    return (BEGIN_MEMORY, ((0, ()),) * len(program))


def is_plain_state(program, state):
    """Tell whether a tuple is a plain state of the program, whether a run leads there or not."""
    check_program(program)
    return is_tuple_of(state, 2) and is_memory(state[0]) and has_observation(program, state[1])


def is_observation(program, observation):
    """Tell whether a tuple is an observation of the program."""
    check_program(program)
    return has_observation(program, observation)


def has_observation(program, observation):
    """Tell whether a tuple is an observation of what is a program."""
    if not is_tuple_of(observation, len(program)):
        return False
    return all(is_core_seen(core, seen) for core, seen in zip(program, observation))


def is_core_seen(core, seen):
    """Tell whether a pair can be what is made and told of a core."""
    if not is_tuple_of(seen, 2) or not is_within(seen[0], 0, len(core)):
        return False
    made, told = seen
    count = sum(1 for instruction in core[:made] if does_read(instruction))
    return is_tuple_of(told, count) and all(is_whole(value) for value in told)


def check_observation(program, observation):
    """Raise NotObservation if a tuple is no observation of the program."""
    if not is_observation(program, observation):
        raise NotObservation("this is no observation of the program")


def check_plain_state(program, state):
    """Raise NotState if a tuple is no plain state of the program."""
    if not is_plain_state(program, state):
        raise NotState("this is no plain state of the program")


def plain_moves(program, state):
    """Return the ascending list of the moves that are allowed."""
    check_plain_state(program, state)
    return [move for move, _ in plain_followers(program, state)]


def plain_followers(program, state):
    """Return the allowed moves, each with the state behind it."""
    found = []
    for c, (made, _) in enumerate(state[1]):
        if made < len(program[c]):
            found.append((("make", c), behind_next(program, state, c)))
    return found


def behind_next(program, state, c):
    """Return the state behind the next instruction of a core that has one more."""
    memory, cores = state
    made, told = cores[c]
    instruction = program[c][made]
    if does_read(instruction):
        told = told + (memory[instruction[1]],)
    if does_write(instruction):
        memory = with_part(memory, instruction[1], instruction[2])
    return (memory, with_part(cores, c, (made + 1, told)))


def plain_behind(program, state, move):
    """Return the state behind a move, or None if it is not allowed."""
    if not is_move(program, move, "make", 2):
        return None
    c = move[1]
    if state[1][c][0] == len(program[c]):
        return None
    return behind_next(program, state, c)


def plain_moved(program, state, move):
    """Return the state behind a move."""
    check_plain_state(program, state)
    return moved_by(program, state, move, plain_behind)


def plain_play(program, moves):
    """Return the state to which a plain run leads."""
    return played(program, begin_plain(program), moves, plain_behind)


def plain_found(program):
    """Return the dict of all plain states that can come, each with the way to it."""
    return states_from(program, begin_plain(program), plain_followers)


def plain_states(program):
    """Return the ascending list of all states that can come."""
    return sorted(plain_found(program))


def plain_observations(program):
    """Return the ascending list of the whole plain observations."""
    ends = [len(core) for core in program]
    cores = [state[1] for state in plain_found(program)]
    return sorted(set([seen for seen in cores if [made for made, _ in seen] == ends]))


def plain_run(program, observation):
    """Return a plain run to a state with the observation."""
    check_observation(program, observation)
    found = plain_found(program)
    for state in found:
        if state[1] == observation:
            return run_to(found, state)
    raise NoAnswer("the observation is not plain")
