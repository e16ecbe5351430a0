"""The checker of tables: it takes right papers alone, by its own look at them.

The modules of the checker import the errors and one another alone, so whoever trusts it
need not trust what made the papers.
"""

from coheir.checkforms import demand_table, has_parts
from coheir.checkmoves import is_fault, looked_at, state_led_to
from coheir.checkwalls import heaps_are_closed, lists_are_closed


def line_led_to(table, n, moves):
    """Return the state to which a play with n caches leads, or None."""
    demand_table(table)
    return state_led_to(table, n, moves) if n >= 0 else None


def are_closed(table, stands, kinds):
    """Tell whether a list of stands and a list of kinds are closed."""
    demand_table(table)
    return lists_are_closed(table, stands, kinds)


def wall_holds(table, stands, kinds, heaps):
    """Tell whether two lists are closed and a list of heaps is a wall for them."""
    demand_table(table)
    return lists_are_closed(table, stands, kinds) and heaps_are_closed(table, stands, kinds, heaps)


def is_never(table, paper):
    """Tell whether a paper is a right never-paper."""
    demand_table(table)
    if not has_parts(paper, 4) or paper[0] != "never":
        return False
    _, stands, kinds, heaps = paper
    return wall_holds(table, stands, kinds, heaps) and not any(is_beginning(heap) for heap in heaps)


def is_beginning(heap):
    """Tell whether a heap is the beginning with some number of caches, or with none."""
    return heap[0] == (0, 1) and all(entry[:2] == (0, 0) for entry in heap[1])


def is_comes(table, paper):
    """Tell whether a paper is a right comes-paper."""
    demand_table(table)
    if not has_parts(paper, 3) or paper[0] != "comes":
        return False
    _, count, moves = paper
    fewer, told = looked_at(count, moves, 4)
    state = line_led_to(table, fewer, told)
    return state is not None and is_fault(table[0], state, moves)


def shown(table, paper):
    """Return which kind of a paper is right, if one is."""
    if is_never(table, paper):
        return "never"
    return "comes" if is_comes(table, paper) else "none"
