"""The forms of what the checker of split tables takes: split tables, kinds of messages and heaps."""

from coheir.checkforms import demand_states, has_parts, is_crowd_of, is_number, is_stand_of
from coheir.errors import NotTable


def demand_split_table(table):
    """Raise NotTable if a tuple is no split table."""
    if not has_parts(table, 4):
        raise NotTable("a split table has four parts")
    rights, homes, messages, rows = table
    demand_states(rights, homes)
    if not is_number(messages, 1, 9):
        raise NotTable("there are 1 to 8 kinds of messages")
    if not isinstance(rows, tuple) or len(rows) > 40:
        raise NotTable("a split table has at most 40 rows")
    for row in rows:
        if not is_split_row_for(row, len(rights), homes, messages):
            raise NotTable("a row of the split table is none")


def is_split_row_for(row, states, homes, messages):
    """Tell whether a tuple is a row for so many states of caches and of the home, and kinds of messages."""
    if not has_parts(row, 9):
        return False
    home, own, gets, home2, own2, others, sends, source, back = row
    has_home, has_own = home != -1, own != -1
    if not has_home and not has_own:
        return False
    if not all(is_number(told, 0, homes) if has_home else is_number(told, -1, 0) for told in (home, home2)):
        return False
    if not all(is_number(told, 0, states) if has_own else is_number(told, -1, 0) for told in (own, own2)):
        return False
    if not is_number(gets, -1, messages):
        return False
    if not has_parts(others, states) or not all(is_number(told, 0, states) for told in others):
        return False
    there = {"keep": False, "own": has_own, "home": has_home, "got": gets != -1}
    if not are_sends(sends, messages, there):
        return False
    if source != "keep" and not (has_own and source in ("home", "got") and there[source]):
        return False
    return back == "keep" or (has_home and back in ("own", "got") and there[back])


def are_sends(sends, messages, there):
    """Tell whether a tuple has what a row sends; `there` tells for each word whether a copy of it is there."""
    if not isinstance(sends, tuple) or len(sends) > 2:
        return False
    for pair in sends:
        if not has_parts(pair, 2) or not is_number(pair[0], 0, messages) or not there.get(pair[1], False):
            return False
    return True


def is_note_of(table, note):
    """Tell whether a tuple is a kind of messages."""
    return has_parts(note, 2) and is_number(note[0], 0, table[2]) and is_number(note[1], 0, 2)


def is_split_heap_of(table, heap):
    """Tell whether a tuple is a split heap."""
    if not has_parts(heap, 3) or not is_stand_of(table, heap[0]):
        return False
    return is_crowd_of(heap[1], len(table[0])) and is_crowd_of(heap[2], table[2])
