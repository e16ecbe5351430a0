"""From plays of split tables to split heaps, and back.

A marked state is a state of a play in which each copy is a pair of its value and its mark.
Rows move such pairs as they move values; and as the messages of a net are sorted with their
marks, equal messages, which differ in their marks alone, have the old one first.
"""

from coheir.errors import BadNumber
from coheir.ghostlead import counted_crowd
from coheir.splitghosts import split_heap_run, split_start
from coheir.splitplay import behind_split_row, check_split_state, split_states_on
from coheir.whole import is_within


def marked_begin(n):
    """Return the marked state at the beginning with n caches."""
    return (0, (0, 1), ((0, (-1, 0)),) * n, ())


def marked_behind(table, state, move):
    """Return the marked state behind an allowed move."""
    if move[0] == "row":
        return behind_split_row(table, state, move)
    if move[0] == "load":
        return state
    home, (value, _), caches, net = state
    _, k, stored = move
    found = [aged(cache) for cache in caches]
    found[k] = (caches[k][0], (stored, 1))
    return (home, (value, 0), tuple(found), tuple([aged(message) for message in net]))


def aged(entry):
    """Return a cache or a message with its copy marked as old."""
    number, (value, _) = entry
    return (number, (value, 0))


def marked_states_on(table, n, moves):
    """Return the list of the marked states of a play, both ends with it."""
    split_states_on(table, n, moves)
    found = [marked_begin(n)]
    for move in moves:
        found.append(marked_behind(table, found[-1], move))
    return found


def mark_at(entries, place):
    """Return the mark of the copy of an entry at a place, -1 for the place -1."""
    return -1 if place == -1 else entries[place][1][1]


def split_marks_on(table, n, moves):
    """Return the list of the marks on a play, of the home, of the caches and of the messages."""
    found = []
    for _, (_, mark), caches, net in marked_states_on(table, n, moves):
        found.append((mark, tuple([entry[1][1] for entry in caches]), tuple([entry[1][1] for entry in net])))
    return found


def split_counted(table, state, marks):
    """Return the heap of a state of a play with these marks."""
    check_split_state(table, state)
    home, _, caches, net = state
    told = (marks[0],) + marks[1] + marks[2]
    if not all(is_within(mark, 0, 1) for mark in told):
        raise BadNumber("a mark is 0 or 1")
    if len(marks[1]) != len(caches) or len(marks[2]) != len(net):
        raise BadNumber("there is one mark for each cache and for each message")
    return ((home, marks[0]), counted_crowd(caches, marks[1]), counted_crowd(net, marks[2]))


def split_led(table, n, moves):
    """Return the list of the moves of heaps to which a play is led over."""
    states = marked_states_on(table, n, moves)
    found = []
    for (_, _, caches, net), move in zip(states, moves):
        if move[0] == "row":
            _, number, k, i = move
            found.append(("row", number, mark_at(caches, k), mark_at(net, i)))
        if move[0] == "store":
            k = move[1]
            found.append(("store", caches[k][0], mark_at(caches, k)))
    return found


def split_lifted(table, n, moves):
    """Return the list of the moves of the lifted play.

    A move is made by one cache at the most, and by the one with the least number, so no more
    caches than moves are looked at, however many there are.
    """
    split_heap_run(table, split_start(table, n), moves)
    state = marked_begin(min(n, len(moves)))
    found = []
    stores = 0
    for move in moves:
        caches, net = state[2:]
        if move[0] == "store":
            stores += 1
            told = ("store", first_place(caches, move[1], move[2]), stores)
        else:
            _, number, x, y = move
            row = table[3][number]
            told = ("row", number, first_place(caches, row[1], x), first_place(net, row[2], y))
        found.append(told)
        state = marked_behind(table, state, told)
    return found


def first_place(entries, wanted, mark):
    """Return the least place of an entry with the wanted first part and a mark, -1 if none is wanted."""
    if wanted == -1:
        return -1
    return [place for place, (number, (_, own)) in enumerate(entries) if number == wanted and own == mark][0]
