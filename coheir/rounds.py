"""Rounds of pairs, the first part of each of which is ahead of the second one."""


def parts_behind(pairs):
    """Return a dict from each part of the pairs to those that it is ahead of, each once."""
    behind = {}
    for one, other in sorted(set(pairs)):
        behind.setdefault(one, []).append(other)
        behind.setdefault(other, [])
    return behind


def in_a_row(parts, pairs):
    """Return these parts, and those of the pairs, so that the first one of each pair comes earlier, or None."""
    behind = parts_behind(pairs)
    for part in parts:
        behind.setdefault(part, [])
    ahead = {part: 0 for part in behind}
    for others in list(behind.values()):
        for other in others:
            ahead[other] += 1
    row = []
    free = [part for part in behind if ahead[part] == 0]
    while free:
        part = free.pop()
        row.append(part)
        for other in behind[part]:
            ahead[other] -= 1
            if ahead[other] == 0:
                free.append(other)
    return row if len(row) == len(behind) else None


def has_round(pairs):
    """Tell whether there is a round."""
    return in_a_row([], pairs) is None


def shortest_round(pairs):
    """Return a shortest round of parts, the first one not repeated, or None."""
    behind = parts_behind(pairs)
    best = None
    if not has_round(pairs):
        return best
    for start in sorted(behind):
        found = round_from(start, behind, best)
        if found is not None:
            best = found
    return best


def round_from(start, behind, best):
    """Return a shortest round from a part on, if it is shorter than the best one, or None.

    No part of it is less than the first one: of each round its least part is the start at some time.
    """
    reached = {start: None}
    layer = [start]
    length = 1
    while layer and (best is None or length < len(best)):
        following = []
        for part in layer:
            for other in behind[part]:
                if other == start:
                    return way_to(part, reached)
                if other > start and other not in reached:
                    reached[other] = part
                    following.append(other)
        layer = following
        length += 1
    return None


def way_to(part, reached):
    """Return the parts from the start to a reached one."""
    way = []
    while part is not None:
        way.append(part)
        part = reached[part]
    return way[::-1]
