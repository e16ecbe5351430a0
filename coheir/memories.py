"""The memory of the four lines, and its first values."""

from coheir.whole import is_tuple_of, is_whole

BEGIN_MEMORY = (0, 0, 0, 0)


def is_memory(memory):
    """Tell whether a tuple has a value for each of the four lines."""
    if not is_tuple_of(memory, len(BEGIN_MEMORY)):
        return False
    return all(is_whole(value) and value >= 0 for value in memory)


def with_part(parts, at, part):
    """Return a tuple with another part at a place."""
    return parts[:at] + (part,) + parts[at + 1:]
