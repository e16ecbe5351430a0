"""The checker of split tables: it takes right papers and cases alone, by its own look at them.

The modules of this checker import the errors, the checkers of tables and of orders and one
another alone.
"""

from coheir.checkforms import has_parts, is_kind_of, is_stand_of
from coheir.checkmoves import is_fault, looked_at
from coheir.checkprograms import demand_program
from coheir.checkproofs import is_proof
from coheir.checkruns import seen_by_plays
from coheir.checksplitmoves import (
    split_acts_in, split_rights, split_state_ahead, split_state_behind, split_state_led_to,
)
from coheir.checksplits import demand_split_table, is_note_of, is_split_heap_of
from coheir.checkwalls import are_held, have_all_behind, once


def split_led_to(table, n, moves):
    """Return the state to which a play with n caches leads, or None."""
    demand_split_table(table)
    return split_state_led_to(table, n, moves) if n >= 0 else None


def are_split_closed(table, stands, kinds, notes):
    """Tell whether lists of stands, of kinds of caches and of kinds of messages are closed."""
    demand_split_table(table)
    if not all(is_stand_of(table, stand) for stand in stands):
        return False
    if not all(is_kind_of(table, kind) for kind in kinds) or not all(is_note_of(table, note) for note in notes):
        return False
    joined = joined_kinds(table, kinds, notes)
    return have_all_behind(stands, joined, acts_of(table, stands, joined))


def joined_kinds(table, kinds, notes):
    """Return the list of the kinds of caches and of messages, the states of messages behind those of caches."""
    return kinds + [(len(table[0]) + kind, mark) for kind, mark in notes]


def acts_of(table, stands, joined):
    """Return the dict of the lists of the acts in each stand of a list, by caches and messages of some kinds."""
    return {stand: split_acts_in(table, stand, once(joined)) for stand in once(stands)}


def split_heaps_hold(table, stands, kinds, notes, heaps):
    """Tell whether three lists are closed and a list of heaps is a wall for them."""
    if not are_split_closed(table, stands, kinds, notes):
        return False
    if not all(is_split_heap_of(table, heap) for heap in heaps):
        return False
    joined = joined_kinds(table, kinds, notes)
    crowds = [(stand, tuple(joined_entries(table, crowd, net))) for stand, crowd, net in heaps]
    return are_held(split_rights(table), joined, acts_of(table, stands, joined), crowds)


def joined_entries(table, crowd, net):
    """Return the list of the entries of a crowd and of a net, the states of messages behind those of caches."""
    return list(crowd) + [(len(table[0]) + kind, mark, number) for kind, mark, number in net]


def is_split_never(table, paper):
    """Tell whether a paper is a right never-paper."""
    demand_split_table(table)
    if not has_parts(paper, 5) or paper[0] != "never":
        return False
    _, stands, kinds, notes, heaps = paper
    if not split_heaps_hold(table, stands, kinds, notes, heaps):
        return False
    return not any(is_split_beginning(heap) for heap in heaps)


def is_split_beginning(heap):
    """Tell whether a heap is the beginning with some number of caches, or with none."""
    return heap[0] == (0, 1) and all(entry[:2] == (0, 0) for entry in heap[1]) and heap[2] == ()


def is_split_comes(table, paper):
    """Tell whether a paper is a right comes-paper."""
    demand_split_table(table)
    if not has_parts(paper, 3) or paper[0] != "comes":
        return False
    _, count, moves = paper
    fewer, told = looked_at(count, moves, 3)
    state = split_led_to(table, fewer, told)
    return state is not None and is_fault(table[0], state, moves)


def split_shown(table, paper):
    """Return which kind of a paper is right, if one is."""
    if is_split_never(table, paper):
        return "never"
    return "comes" if is_split_comes(table, paper) else "none"


def split_machine_led_to(table, program, moves):
    """Return the sight of a run of a split machine, or None."""
    demand_split_table(table)
    demand_program(program)
    return seen_by_plays(table, program, moves, split_state_ahead(len(program)), split_state_behind)


def split_case_holds(table, program, moves, proof):
    """Tell whether a case against a split table is right."""
    seen = split_machine_led_to(table, program, moves)
    return seen is not None and is_proof(program, seen, proof)
