"""Texts of tables."""

from coheir.tables import MOST_HOMES, MOST_RIGHTS, MOST_ROWS, check_table
from coheir.wordreader import Words, decimals


def text_of_table(table):
    """Return the text of a table."""
    check_table(table)
    rights, homes, rows = table
    words = ["rights"] + [str(right) for right in rights] + ["homes", str(homes)]
    for row in rows:
        words.extend(words_of_row(row))
    return " ".join(words)


def words_of_row(row):
    """Return the list of the words of a row."""
    home, own, other, home2, own2, other2, others, source, back = row
    states = [home, own, other, home2, own2, other2] + list(others)
    return [":"] + ["-" if state == -1 else str(state) for state in states] + [source, back]


def read_table(text):
    """Return the table with a text."""
    words = Words(text)
    words.take(["rights"])
    rights = read_rights(words)
    words.take(["homes"])
    homes = int(words.take(decimals(1, MOST_HOMES)))
    rows = []
    while words.more():
        words.take([":"] if len(rows) < MOST_ROWS else [])
        rows.append(read_row(words, len(rights), homes))
    table = (rights, homes, tuple(rows))
    check_table(table)
    return table


def read_rights(words):
    """Take the rights, at least one, up to the word that ends them."""
    rights = [int(words.take(decimals(0, 2)))]
    while len(rights) < MOST_RIGHTS and not words.sees("homes"):
        rights.append(int(words.take(decimals(0, 2))))
    return tuple(rights)


def read_row(words, size, homes):
    """Take the words of a row, behind its first one."""
    in_homes = decimals(0, homes - 1)
    in_states = decimals(0, size - 1)
    home = int(words.take(in_homes))
    own = int(words.take(in_states))
    partner = words.take(["-"] + in_states)
    home2 = int(words.take(in_homes))
    own2 = int(words.take(in_states))
    alone = partner == "-"
    partner2 = words.take(["-"] if alone else in_states)
    others = tuple([int(words.take(in_states)) for _ in range(size)])
    source = words.take(["keep", "home"] if alone else ["keep", "home", "other"])
    back = words.take(["keep", "own"] if alone else ["keep", "own", "other"])
    other, other2 = (-1, -1) if alone else (int(partner), int(partner2))
    return (home, own, other, home2, own2, other2, others, source, back)
