"""Rows that are needed, and rows that are too many."""

from itertools import combinations

from coheir.coherence import is_coherent, passes
from coheir.errors import BadNumber, TooLarge
from coheir.tables import check_table
from coheir.whole import is_within

MOST_TOLD = 6


def with_rows(table, rows):
    """Return the table with some of its rows, in their order."""
    check_rows(table, rows)
    rights, homes, told = table
    return (rights, homes, tuple([told[number] for number in sorted(rows)]))


def check_rows(table, rows):
    """Raise BadNumber if a number is that of no row, or stands twice."""
    check_table(table)
    if not all(is_within(number, 0, len(table[2]) - 1) for number in rows) or len(set(rows)) < len(rows):
        raise BadNumber("a number is that of no row, or stands twice")


def check_told(table, rows):
    """Raise an error if these rows cannot be told."""
    check_rows(table, rows)
    if len(rows) > MOST_TOLD:
        raise TooLarge(f"there are at most {MOST_TOLD} rows here")


def parts_of(rows):
    """Return the list of all sets of some rows, those with fewer rows first."""
    told = sorted(rows)
    return [part for size in range(len(told) + 1) for part in combinations(told, size)]


def left_with(table, rows, part):
    """Return the table with a set of the told rows, and with all rows that are not told."""
    others = [number for number in range(len(table[2])) if number not in rows]
    return with_rows(table, others + list(part))


def is_inside(part, whole):
    """Tell whether all rows of a set are in another one."""
    return all(number in whole for number in part)


def least_passing(table, rows):
    """Return the ascending list of the least passing sets of told rows."""
    check_told(table, rows)
    found = []
    for part in parts_of(rows):
        if not any(is_inside(least, part) for least in found) and passes(left_with(table, rows, part)):
            found.append(part)
    return sorted(found)


def greatest_safe(table, rows):
    """Return the ascending list of the greatest safe sets of told rows."""
    check_told(table, rows)
    safe = [part for part in parts_of(rows) if is_coherent(left_with(table, rows, part))]
    found = []
    for part in safe[::-1]:
        if not any(is_inside(part, greater) for greater in found):
            found.append(part)
    return sorted(found)


def mends(table, rows):
    """Return the ascending list of all mends."""
    check_told(table, rows)
    found = []
    for out in parts_of(rows):
        left = left_with(table, rows, [number for number in rows if number not in out])
        # Each set is asked, so that a bar that is too large is found, whatever the others tell.
        is_good = is_coherent(left) and passes(left)
        if is_good and not any(is_inside(less, out) for less in found):
            found.append(out)
    return sorted(found)
