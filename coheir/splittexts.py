"""Texts of split tables."""

from coheir.splittables import (
    MOST_MESSAGES, MOST_SENDS, MOST_SPLIT_ROWS, check_split_table, words_of_back, words_of_source, words_sent,
)
from coheir.tables import MOST_HOMES
from coheir.tabletexts import read_rights
from coheir.wordreader import Words, decimals


def text_of_split(table):
    """Return the text of a split table."""
    check_split_table(table)
    rights, homes, messages, rows = table
    words = ["rights"] + [str(right) for right in rights] + ["homes", str(homes), "messages", str(messages)]
    for row in rows:
        words.extend(words_of_split_row(row))
    return " ".join(words)


def words_of_split_row(row):
    """Return the list of the words of a row."""
    others, sends, source, back = row[5:]
    numbers = row[:5] + others
    words = [":"] + ["-" if number == -1 else str(number) for number in numbers]
    for kind, word in sends:
        words.extend([str(kind), word])
    return words + [";", source, back]


def read_split(text):
    """Return the split table with a text."""
    words = Words(text)
    words.take(["rights"])
    rights = read_rights(words)
    words.take(["homes"])
    homes = int(words.take(decimals(1, MOST_HOMES)))
    words.take(["messages"])
    messages = int(words.take(decimals(1, MOST_MESSAGES)))
    rows = []
    while words.more():
        words.take([":"] if len(rows) < MOST_SPLIT_ROWS else [])
        rows.append(read_split_row(words, len(rights), homes, messages))
    table = (rights, homes, messages, tuple(rows))
    check_split_table(table)
    return table


def read_split_row(words, size, homes, messages):
    """Take the words of a row, behind its first one."""
    in_homes = decimals(0, homes - 1)
    in_states = decimals(0, size - 1)
    in_messages = decimals(0, messages - 1)
    home = number_or_none(words.take(["-"] + in_homes))
    own = number_or_none(words.take(in_states if home == -1 else ["-"] + in_states))
    gets = number_or_none(words.take(["-"] + in_messages))
    home2 = number_or_none(words.take(["-"] if home == -1 else in_homes))
    own2 = number_or_none(words.take(["-"] if own == -1 else in_states))
    others = tuple([int(words.take(in_states)) for _ in range(size)])
    sends = read_sends(words, in_messages, words_sent(home, own, gets))
    source = words.take(words_of_source(home, own, gets))
    back = words.take(words_of_back(home, own, gets))
    return (home, own, gets, home2, own2, others, sends, source, back)


def number_or_none(word):
    """Return the number that a word tells, -1 for `-`."""
    return -1 if word == "-" else int(word)


def read_sends(words, in_messages, copies):
    """Take the pairs that a row sends, and the word that ends them."""
    sends = []
    while len(sends) < MOST_SENDS and not words.sees(";"):
        kind = int(words.take(in_messages))
        sends.append((kind, words.take(copies)))
    words.take([";"])
    return tuple(sends)
