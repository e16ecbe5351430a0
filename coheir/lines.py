"""The lines of text that a desk reads, and their words."""

NUMBERS = 100
LONGEST_NAME = 12


def words_of(line):
    """Return the list of the words of a line, or None if it is malformed."""
    words = line.split(" ")
    if all(is_word(word) for word in words):
        return words
    return None


def is_word(word):
    """Tell whether a string is one or more characters from `!` to `~`."""
    return word != "" and all("!" <= sign <= "~" for sign in word)


def is_name(word):
    """Tell whether a string is a name: 1 to 12 small letters."""
    return 1 <= len(word) <= LONGEST_NAME and all("a" <= sign <= "z" for sign in word)


def number_in(word):
    """Return the integer from 0 to 99 that a word tells, or None."""
    known = {str(number): number for number in range(NUMBERS)}
    return known.get(word)
