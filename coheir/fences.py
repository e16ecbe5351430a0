"""Fences: where they stand, and the least choices of places that are enough."""

from itertools import combinations

from coheir.buffered import buffered_observations
from coheir.errors import BadNumber, TooLarge
from coheir.loose import loose_observations
from coheir.plain import plain_observations
from coheir.programs import MOST_INSTRUCTIONS, check_program
from coheir.whole import is_tuple_of, is_within

MOST_PLACES = 6


def places_of(program):
    """Return the ascending list of all places."""
    check_program(program)
    return [(c, i) for c, core in enumerate(program) for i in range(len(core) - 1)]


def check_places(program, places):
    """Raise BadNumber if a pair is no place of the program, or stands twice."""
    check_program(program)
    if not all(is_place(program, place) for place in places) or len(set(places)) < len(places):
        raise BadNumber("a pair is no place, or stands twice")


def is_place(program, place):
    """Tell whether a pair is a place of what is a program."""
    if not is_tuple_of(place, 2) or not is_within(place[0], 0, len(program) - 1):
        return False
    return is_within(place[1], 0, len(program[place[0]]) - 2)


def with_fences(program, places):
    """Return the program with fences at a list of places."""
    check_places(program, places)
    check_fenced(program, places)
    return fenced(program, places)


def check_fenced(program, places):
    """Raise TooLarge if a core would have too many instructions with fences at these places."""
    if any(len(core) > MOST_INSTRUCTIONS for core in fenced(program, places)):
        raise TooLarge(f"a core has at most {MOST_INSTRUCTIONS} instructions")


def fenced(program, places):
    """Return the program with fences at places of it."""
    return tuple([core_fenced(core, c, places) for c, core in enumerate(program)])


def core_fenced(core, c, places):
    """Return a core with its fences."""
    found = []
    for i, instruction in enumerate(core):
        found.append(instruction)
        if (c, i) in places:
            found.append(("fence",))
    return tuple(found)


def results_in(observations):
    """Return the list of what is told; it has no two alike, as what is made is all in each observation."""
    return [tuple([told for _, told in seen]) for seen in observations]


def plain_results(program):
    """Return the ascending list of the plain results."""
    return results_in(plain_observations(program))


def buffered_results(program):
    """Return the ascending list of the buffered results."""
    return results_in(buffered_observations(program))


def loose_results(program):
    """Return the ascending list of the loose results."""
    return results_in(loose_observations(program))


def results_by(program, order):
    """Return the results by one of the orders with buffers."""
    return buffered_results(program) if order == "buffered" else loose_results(program)


def check_fence_order(order):
    """Raise BadNumber if a string is none of the orders with buffers."""
    if order not in ("buffered", "loose"):
        raise BadNumber("an order is buffered or loose here")


def is_steady(program, *, order="buffered"):
    """Tell whether a program is steady for an order."""
    check_program(program)
    check_fence_order(order)
    wanted = plain_results(program)
    return results_by(program, order) == wanted


def least_fences(program, places, *, order="buffered"):
    """Return the list of all least choices out of a list of places, as tuples of indexes."""
    check_places(program, places)
    check_fence_order(order)
    if len(places) > MOST_PLACES:
        raise TooLarge(f"there are at most {MOST_PLACES} places")
    check_fenced(program, places)
    wanted = plain_results(program)
    found = []
    for size in range(len(places) + 1):
        for choice in combinations(range(len(places)), size):
            if not any(is_part(least, choice) for least in found):
                if results_by(fenced(program, [places[at] for at in choice]), order) == wanted:
                    found.append(choice)
    return found


def is_part(least, choice):
    """Tell whether all indexes of one choice are in another one."""
    return all(at in choice for at in least)
