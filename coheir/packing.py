"""Crowds as single integers, which are added and compared at once."""


class Packing:
    """Crowds of some kinds, with no number greater than `most`, as integers.

    Each kind has a field of bits, whose top bit is 0. If all top bits are set ahead of a
    difference, a field takes its own top bit away exactly if its number is too small. A
    crowd that is below another one is never the greater integer.
    """

    def __init__(self, kinds, most):
        width = most.bit_length() + 1
        self.mask = (1 << width) - 1
        self.places = {kind: width * at for at, kind in enumerate(kinds)}
        self.units = {kind: 1 << (width * at) for at, kind in enumerate(kinds)}
        self.tops = sum([1 << (width * at + width - 1) for at in range(len(kinds))])

    def pack(self, crowd):
        """Return the integer of a crowd."""
        return sum([number * self.units[state, mark] for state, mark, number in crowd])

    def numbers(self, packed):
        """Return the dict of the numbers of a crowd, by the kinds."""
        return {kind: (packed >> place) & self.mask for kind, place in self.places.items()}

    def has_below(self, crowds, packed):
        """Tell whether one of a list of crowds is below a crowd."""
        tops = self.tops
        raised = packed | tops
        return any((raised - one) & tops == tops for one in crowds)

    def least(self, crowds):
        """Return the ascending list of those crowds, each once, that have no other one below them."""
        found = []
        for packed in sorted(crowds):
            if not self.has_below(found, packed):
                found.append(packed)
        return found


def all_shares(number, units):
    """Return the list of all ways to deal a number among kinds with these units, as integers."""
    if len(units) == 1:
        return [number * units[0]]
    found = []
    if units:
        for first in range(number + 1):
            rests = all_shares(number - first, units[1:])
            found.extend([first * units[0] + rest for rest in rests])
    return found


def worst_shares(number, units, heights):
    """Return those ways to deal a number from which the least is reached.

    `heights` has for each unit the list of the numbers at which a share of it reaches more.
    Between two heights the greatest share leaves the least for the others: if all ways with
    such shares reach enough, all ways do.
    """
    if len(units) == 1:
        return [number * units[0]]
    found = []
    if units:
        shares = [height - 1 for height in heights[units[0]] if 1 <= height <= number]
        for first in shares + [number]:
            rests = worst_shares(number - first, units[1:], heights)
            found.extend([first * units[0] + rest for rest in rests])
    return found
