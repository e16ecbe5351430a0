"""Three known tables, and tables that forget to tell the other caches."""

from coheir.errors import BadNumber
from coheir.tables import check_table
from coheir.whole import is_within

MSI = (
    (0, 1, 2),
    2,
    (
        (0, 0, -1, 0, 1, -1, (0, 1, 2), "home", "keep"),
        (1, 0, 2, 0, 1, 1, (0, 1, 2), "other", "other"),
        (0, 0, -1, 1, 2, -1, (0, 0, 2), "home", "keep"),
        (1, 0, 2, 1, 2, 0, (0, 1, 2), "other", "keep"),
        (0, 1, -1, 1, 2, -1, (0, 0, 2), "keep", "keep"),
        (0, 1, -1, 0, 0, -1, (0, 1, 2), "keep", "keep"),
        (1, 2, -1, 0, 0, -1, (0, 1, 2), "keep", "own"),
    ),
)

MESI = (
    (0, 1, 1, 2),
    3,
    (
        (0, 0, -1, 2, 2, -1, (0, 1, 2, 3), "home", "keep"),
        (1, 0, -1, 1, 1, -1, (0, 1, 2, 3), "home", "keep"),
        (2, 0, 2, 1, 1, 1, (0, 1, 2, 3), "other", "keep"),
        (2, 0, 3, 1, 1, 1, (0, 1, 2, 3), "other", "other"),
        (0, 0, -1, 2, 3, -1, (0, 1, 2, 3), "home", "keep"),
        (1, 0, -1, 2, 3, -1, (0, 0, 2, 3), "home", "keep"),
        (1, 1, -1, 2, 3, -1, (0, 0, 2, 3), "keep", "keep"),
        (2, 0, 2, 2, 3, 0, (0, 1, 2, 3), "other", "keep"),
        (2, 0, 3, 2, 3, 0, (0, 1, 2, 3), "other", "keep"),
        (2, 2, -1, 2, 3, -1, (0, 1, 2, 3), "keep", "keep"),
        (1, 1, -1, 1, 0, -1, (0, 1, 2, 3), "keep", "keep"),
        (2, 2, -1, 0, 0, -1, (0, 1, 2, 3), "keep", "keep"),
        (2, 3, -1, 0, 0, -1, (0, 1, 2, 3), "keep", "own"),
    ),
)

MOSI = (
    (0, 1, 1, 2),
    2,
    (
        (0, 0, -1, 0, 1, -1, (0, 1, 2, 3), "home", "keep"),
        (1, 0, 3, 1, 1, 2, (0, 1, 2, 3), "other", "keep"),
        (1, 0, 2, 1, 1, 2, (0, 1, 2, 3), "other", "keep"),
        (0, 0, -1, 1, 3, -1, (0, 0, 0, 0), "home", "keep"),
        (0, 1, -1, 1, 3, -1, (0, 0, 0, 0), "keep", "keep"),
        (1, 2, -1, 1, 3, -1, (0, 0, 0, 0), "keep", "keep"),
        (1, 0, 3, 1, 3, 0, (0, 0, 0, 0), "other", "keep"),
        (1, 0, 2, 1, 3, 0, (0, 0, 0, 0), "other", "keep"),
        (1, 1, 2, 1, 3, 0, (0, 0, 0, 0), "other", "keep"),
        (1, 2, -1, 0, 1, -1, (0, 1, 2, 3), "keep", "own"),
        (0, 1, -1, 0, 0, -1, (0, 1, 2, 3), "keep", "keep"),
        (1, 1, -1, 1, 0, -1, (0, 1, 2, 3), "keep", "keep"),
        (1, 3, -1, 0, 0, -1, (0, 1, 2, 3), "keep", "own"),
    ),
)


def msi():
    """Return the table with the states invalid, shared and modified."""
    return MSI


def mesi():
    """Return the table with the states invalid, shared, exclusive and modified."""
    return MESI


def mosi():
    """Return the table with the states invalid, shared, owned and modified."""
    return MOSI


def forgetful(table, number):
    """Return the table in which the row does not tell the other caches."""
    check_table(table)
    rights, homes, rows = table
    if not is_within(number, 0, len(rows) - 1):
        raise BadNumber("there is no such row")
    row = rows[number]
    silent = row[:6] + (tuple(range(len(rights))),) + row[7:]
    return (rights, homes, rows[:number] + (silent,) + rows[number + 1:])
