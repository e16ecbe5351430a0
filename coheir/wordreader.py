"""Reading a text word by word."""

from coheir.errors import Malformed


def decimals(low, high):
    """Return the decimal forms of the integers from low to high."""
    return [str(number) for number in range(low, high + 1)]


class Words:
    """The words of a text, which are taken one after the other."""

    def __init__(self, text):
        self.words = text.split(" ")
        self.at = 0

    def more(self):
        """Tell whether a word is left."""
        return self.at < len(self.words)

    def sees(self, word):
        """Tell whether this is the word that comes now."""
        return self.more() and self.words[self.at] == word

    def take(self, allowed):
        """Take the word that comes now, one of those that are allowed here."""
        if not self.more() or self.words[self.at] not in allowed:
            raise Malformed(self.at)
        self.at += 1
        return self.words[self.at - 1]
