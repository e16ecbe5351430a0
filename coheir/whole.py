"""Small questions about values: integers in a range, tuples of a length."""


def is_whole(value):
    """Tell whether a value is an integer; True and False are none."""
    return type(value) is int


def is_within(value, low, high):
    """Tell whether a value is an integer from low to high."""
    return type(value) is int and low <= value <= high


def is_tuple_of(value, size):
    """Tell whether a value is a tuple with so many parts."""
    return isinstance(value, tuple) and len(value) == size


def is_order(values, size):
    """Tell whether a tuple has the integers from 0 to size - 1, each once."""
    if not is_tuple_of(values, size) or not all(is_whole(value) for value in values):
        return False
    return sorted(values) == list(range(size))
