"""The forms of what the checker takes: tables, stands, kinds and heaps."""

from coheir.errors import NotTable


def is_number(value, low, end):
    """Tell whether a value is an integer that is at least low and less than end."""
    return type(value) is int and low <= value < end


def has_parts(value, count):
    """Tell whether a value is a tuple with so many parts."""
    return isinstance(value, tuple) and len(value) == count


def demand_table(table):
    """Raise NotTable if a tuple is no table."""
    if not has_parts(table, 3):
        raise NotTable("a table has three parts")
    rights, homes, rows = table
    demand_states(rights, homes)
    if not isinstance(rows, tuple) or len(rows) > 24:
        raise NotTable("a table has at most 24 rows")
    for row in rows:
        if not is_row_for(row, len(rights), homes):
            raise NotTable("a row of the table is none")


def demand_states(rights, homes):
    """Raise NotTable if these are no rights of the states of caches, or no number of states of the home."""
    if not isinstance(rights, tuple) or not 1 <= len(rights) <= 8:
        raise NotTable("a table has 1 to 8 rights")
    if not all(is_number(right, 0, 3) for right in rights) or rights[0] != 0:
        raise NotTable("a right is 0, 1 or 2, and the first one is 0")
    if not is_number(homes, 1, 7):
        raise NotTable("a home has 1 to 6 states")


def is_row_for(row, states, homes):
    """Tell whether a tuple is a row for so many states of caches and of the home."""
    if not has_parts(row, 9):
        return False
    home, own, other, home2, own2, other2, others, source, back = row
    if not all(is_number(told, 0, homes) for told in (home, home2)):
        return False
    if not has_parts(others, states):
        return False
    if not all(is_number(told, 0, states) for told in (own, own2, *others)):
        return False
    if is_number(other, -1, 0) and is_number(other2, -1, 0):
        return source in ("keep", "home") and back in ("keep", "own")
    if not all(is_number(told, 0, states) for told in (other, other2)):
        return False
    return source in ("keep", "home", "other") and back in ("keep", "own", "other")


def is_stand_of(table, stand):
    """Tell whether a tuple is a stand."""
    return has_parts(stand, 2) and is_number(stand[0], 0, table[1]) and is_number(stand[1], 0, 2)


def is_kind_of(table, kind):
    """Tell whether a tuple is a kind of caches."""
    return has_parts(kind, 2) and is_number(kind[0], 0, len(table[0])) and is_number(kind[1], 0, 2)


def is_heap_of(table, heap):
    """Tell whether a tuple is a heap."""
    return has_parts(heap, 2) and is_stand_of(table, heap[0]) and is_crowd_of(heap[1], len(table[0]))


def is_crowd_of(crowd, states):
    """Tell whether a tuple has numbers of kinds with so many states, the kinds strictly ascending."""
    if not isinstance(crowd, tuple):
        return False
    for entry in crowd:
        if not has_parts(entry, 3) or not is_number(entry[0], 0, states) or not is_number(entry[1], 0, 2):
            return False
        if type(entry[2]) is not int or entry[2] < 1:
            return False
    return all(crowd[at][:2] < crowd[at + 1][:2] for at in range(len(crowd) - 1))
