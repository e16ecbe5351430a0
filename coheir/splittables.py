"""Split tables: rows in which messages with copies are sent and taken."""

from coheir.errors import BadNumber, NoAnswer, NotTable
from coheir.tables import MOST_HOMES, are_rights, check_table, moved
from coheir.whole import is_order, is_tuple_of, is_within

MOST_MESSAGES = 8
MOST_SPLIT_ROWS = 40
MOST_SENDS = 2


def is_split_table(table):
    """Tell whether a tuple is a split table."""
    if not is_tuple_of(table, 4):
        return False
    rights, homes, messages, rows = table
    if not are_rights(rights) or not is_within(homes, 1, MOST_HOMES) or not is_within(messages, 1, MOST_MESSAGES):
        return False
    if not isinstance(rows, tuple) or len(rows) > MOST_SPLIT_ROWS:
        return False
    return all(is_split_row(row, len(rights), homes, messages) for row in rows)


def is_split_row(row, size, homes, messages):
    """Tell whether a tuple is a row for so many states of caches and of the home and kinds of messages."""
    if not is_tuple_of(row, 9):
        return False
    home, own, gets, home2, own2, others, sends, source, back = row
    if not are_states(home, home2, homes) or not are_states(own, own2, size) or (home == -1 and own == -1):
        return False
    if not is_within(gets, -1, messages - 1):
        return False
    if not is_tuple_of(others, size) or not all(is_within(state, 0, size - 1) for state in others):
        return False
    words = words_sent(home, own, gets)
    if not isinstance(sends, tuple) or len(sends) > MOST_SENDS:
        return False
    if not all(is_tuple_of(pair, 2) and is_within(pair[0], 0, messages - 1) and pair[1] in words for pair in sends):
        return False
    return source in words_of_source(home, own, gets) and back in words_of_back(home, own, gets)


def are_states(one, two, count):
    """Tell whether two values are both numbers of so many states, or both -1."""
    low, high = (-1, -1) if one == -1 else (0, count - 1)
    return is_within(one, low, high) and is_within(two, low, high)


def words_sent(home, own, gets):
    """Return the list of the words for the copies that a row can send; -1 is told for what it has not."""
    told = [("own", own), ("home", home), ("got", gets)]
    return [word for word, number in told if number != -1]


def words_of_source(home, own, gets):
    """Return the list of the words that may tell what the own cache gets."""
    if own == -1:
        return ["keep"]
    return ["keep"] + words_sent(home, -1, gets)


def words_of_back(home, own, gets):
    """Return the list of the words that may tell what the home gets."""
    if home == -1:
        return ["keep"]
    return ["keep"] + words_sent(-1, own, gets)


def check_split_table(table):
    """Raise NotTable if a tuple is no split table."""
    if not is_split_table(table):
        raise NotTable("this is no split table")


def split_of(table):
    """Return the split table of a table whose rows have no partners."""
    check_table(table)
    rights, homes, rows = table
    if any(row[2] != -1 for row in rows):
        raise NoAnswer("a row has a partner")
    found = []
    for home, own, _, home2, own2, _, others, source, back in rows:
        found.append((home, own, -1, home2, own2, others, (), source, back))
    return (rights, homes, 1, tuple(found))


def split_without(table, numbers):
    """Return the split table without the rows with these numbers."""
    check_split_table(table)
    rows = table[3]
    for number in numbers:
        if not is_within(number, 0, len(rows) - 1):
            raise BadNumber("there is no such row")
    return table[:3] + (tuple([row for number, row in enumerate(rows) if number not in numbers]),)


def split_renamed(table, states, homes, messages):
    """Return the split table with new numbers of the states of caches and of the home, and of the messages."""
    check_split_table(table)
    rights, count, kinds, rows = table
    if not is_order(states, len(rights)) or states[0] != 0:
        raise BadNumber("these are not the numbers of the states of caches, with 0 for 0")
    if not is_order(homes, count):
        raise BadNumber("these are not the numbers of the states of the home")
    if not is_order(messages, kinds):
        raise BadNumber("these are not the numbers of the kinds of messages")
    new_rows = tuple([renamed_split_row(row, states, homes, messages) for row in rows])
    return (moved(rights, states), count, kinds, new_rows)


def renamed_split_row(row, states, homes, messages):
    """Return a row with new numbers of the states and of the messages."""
    home, own, gets, home2, own2, others, sends, source, back = row
    new_others = moved(tuple([states[state] for state in others]), states)
    new_sends = tuple([(messages[kind], word) for kind, word in sends])
    return (
        new_number(homes, home), new_number(states, own), new_number(messages, gets), new_number(homes, home2),
        new_number(states, own2), new_others, new_sends, source, back,
    )


def new_number(numbers, number):
    """Return the new one of a number, -1 for -1."""
    return -1 if number == -1 else numbers[number]
