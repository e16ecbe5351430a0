"""Races: two cores whose next instructions meet."""

from coheir.plain import plain_found
from coheir.programs import does_write
from coheir.search import run_to


def do_meet(one, other):
    """Tell whether two instructions of different cores meet."""
    if one[0] == "fence" or other[0] == "fence" or one[1] != other[1]:
        return False
    if one[0] == "swap" and other[0] == "swap":
        return False
    return does_write(one) or does_write(other)


def has_race(program):
    """Tell whether a program has a race."""
    return first_race(program) is not None


def first_race(program):
    """Return a shortest plain run to a race, and its two cores, or None."""
    found = plain_found(program)
    for state in found:
        cores = cores_that_meet(program, state)
        if cores is not None:
            return (run_to(found, state),) + cores
    return None


def cores_that_meet(program, state):
    """Return the numbers of the first two cores whose next instructions meet, or None."""
    following = [(c, core[made[0]]) for c, (core, made) in enumerate(zip(program, state[1])) if made[0] < len(core)]
    for at, (c, one) in enumerate(following):
        for d, other in following[at + 1:]:
            if do_meet(one, other):
                return (c, d)
    return None
