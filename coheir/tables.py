"""Tables: which rows caches and a home can make of a line."""

from coheir.errors import BadNumber, NotTable, TooLarge
from coheir.whole import is_order, is_tuple_of, is_within

MOST_RIGHTS = 8
MOST_HOMES = 6
MOST_ROWS = 24


def is_table(table):
    """Tell whether a tuple is a table."""
    if not is_tuple_of(table, 3):
        return False
    rights, homes, rows = table
    if not are_rights(rights) or not is_within(homes, 1, MOST_HOMES):
        return False
    if not isinstance(rows, tuple) or len(rows) > MOST_ROWS:
        return False
    return all(is_row(row, len(rights), homes) for row in rows)


def are_rights(rights):
    """Tell whether a tuple has the rights of the states of caches."""
    if not isinstance(rights, tuple) or not 1 <= len(rights) <= MOST_RIGHTS:
        return False
    return rights[0] == 0 and all(is_within(right, 0, 2) for right in rights)


def is_row(row, size, homes):
    """Tell whether a tuple is a row for so many states of caches and of the home."""
    if not is_tuple_of(row, 9):
        return False
    home, own, other, home2, own2, other2, others, source, back = row
    if not is_within(home, 0, homes - 1) or not is_within(home2, 0, homes - 1):
        return False
    if not is_within(own, 0, size - 1) or not is_within(own2, 0, size - 1):
        return False
    low, high = (-1, -1) if other == -1 else (0, size - 1)
    if not is_within(other, low, high) or not is_within(other2, low, high):
        return False
    if not is_tuple_of(others, size) or not all(is_within(state, 0, size - 1) for state in others):
        return False
    if other == -1:
        return source in ("keep", "home") and back in ("keep", "own")
    return source in ("keep", "home", "other") and back in ("keep", "own", "other")


def check_table(table):
    """Raise NotTable if a tuple is no table."""
    if not is_table(table):
        raise NotTable("this is no table")


def rows_at(table, home, own):
    """Return the ascending list of the rows with this state of the home and this own state."""
    check_table(table)
    rights, homes, rows = table
    if not is_within(home, 0, homes - 1):
        raise BadNumber("there is no such state of the home")
    if not is_within(own, 0, len(rights) - 1):
        raise BadNumber("there is no such state of caches")
    return [number for number, row in enumerate(rows) if row[0] == home and row[1] == own]


def without_rows(table, numbers):
    """Return the table without the rows with these numbers."""
    check_table(table)
    rights, homes, rows = table
    for number in numbers:
        if not is_within(number, 0, len(rows) - 1):
            raise BadNumber("there is no such row")
    kept = tuple(row for number, row in enumerate(rows) if number not in numbers)
    return (rights, homes, kept)


def with_row(table, row):
    """Return the table with a row more, at the end."""
    check_table(table)
    rights, homes, rows = table
    if not is_row(row, len(rights), homes):
        raise BadNumber("this is no row of the table")
    if len(rows) == MOST_ROWS:
        raise TooLarge("the table has all rows that it may have")
    return (rights, homes, rows + (row,))


def renamed(table, states, homes):
    """Return the table with new numbers of the states of caches and of the home."""
    check_table(table)
    rights, count, rows = table
    if not is_order(states, len(rights)) or states[0] != 0:
        raise BadNumber("these are not the numbers of the states of caches, with 0 for 0")
    if not is_order(homes, count):
        raise BadNumber("these are not the numbers of the states of the home")
    new_rows = tuple(renamed_row(row, states, homes) for row in rows)
    return (moved(rights, states), count, new_rows)


def moved(entries, places):
    """Return the tuple that has each entry at its new place."""
    found = {place: entry for place, entry in zip(places, entries)}
    return tuple(found[place] for place in range(len(entries)))


def renamed_row(row, states, homes):
    """Return a row with new numbers of the states of caches and of the home."""
    home, own, other, home2, own2, other2, others, source, back = row
    if other != -1:
        other, other2 = states[other], states[other2]
    new_others = moved(tuple(states[state] for state in others), states)
    return (homes[home], states[own], other, homes[home2], states[own2], other2, new_others, source, back)
