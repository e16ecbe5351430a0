"""A known split table, and split tables that forget to tell the other caches."""

from coheir.errors import BadNumber
from coheir.splittables import check_split_table
from coheir.whole import is_within

SPLIT_MSI = (
    (0, 1, 2, 0, 0),
    5,
    5,
    (
        (-1, 0, -1, -1, 3, (0, 1, 2, 3, 4), ((3, "own"),), "keep", "keep"),
        (0, -1, 3, 2, -1, (0, 1, 2, 3, 4), ((0, "home"),), "keep", "keep"),
        (2, 3, 0, 0, 1, (0, 1, 2, 3, 4), (), "got", "keep"),
        (-1, 0, -1, -1, 4, (0, 1, 2, 3, 4), ((4, "own"),), "keep", "keep"),
        (0, -1, 4, 3, -1, (0, 0, 2, 3, 4), ((1, "home"),), "keep", "keep"),
        (3, 4, 1, 1, 2, (0, 1, 2, 3, 4), (), "got", "keep"),
        (-1, 1, -1, -1, 0, (0, 1, 2, 3, 4), (), "keep", "keep"),
        (1, 2, -1, 4, 0, (0, 1, 2, 3, 4), ((2, "own"),), "keep", "keep"),
        (4, -1, 2, 0, -1, (0, 1, 2, 3, 4), (), "keep", "got"),
    ),
)


def split_msi():
    """Return the split table with the states invalid, shared, modified and two of waiting."""
    return SPLIT_MSI


def split_forgetful(table, number):
    """Return the split table in which the row does not tell the other caches."""
    check_split_table(table)
    rows = table[3]
    if not is_within(number, 0, len(rows) - 1):
        raise BadNumber("there is no such row")
    row = rows[number]
    silent = row[:5] + (tuple(range(len(table[0]))),) + row[6:]
    return table[:3] + (rows[:number] + (silent,) + rows[number + 1:],)
