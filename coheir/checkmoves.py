"""The moves that the checker makes by itself: with numbered caches, and with marks."""


def state_led_to(table, count, moves):
    """Return the state to which a play leads, or None if some move is not allowed."""
    return state_after(table, state_ahead(count), moves, state_behind)


def state_ahead(count):
    """Return the state at the beginning with so many caches."""
    return (0, 0, tuple([(0, -1)] * count))


def state_after(table, state, moves, behind):
    """Return the state behind some moves, each made by `behind`, or None if some move is not allowed."""
    for move in moves:
        if state is not None:
            state = behind(table, state, move)
    return state


def state_behind(table, state, move):
    """Return the state behind a move, or None if it is not allowed."""
    if len(move) == 4 and move[0] == "row":
        return behind_row(table, state, move)
    return behind_use(table, state, move)


def behind_use(table, state, move):
    """Return the state behind a load or a store of a cache, or None if it is not allowed."""
    if len(move) == 3 and move[0] == "store":
        return behind_store(table, state, move)
    if len(move) == 2 and move[0] == "load" and right_of(table, state, move[1]) > 0:
        return state
    return None


def is_place(number, entries):
    """Tell whether an integer is the place of one of some entries."""
    return type(number) is int and 0 <= number < len(entries)


def right_of(table, state, number):
    """Return the right of the cache with this number, 0 if there is none."""
    caches = state[2]
    return table[0][caches[number][0]] if is_place(number, caches) else 0


def behind_store(table, state, move):
    """Return the state behind a store, or None."""
    _, number, value = move
    if right_of(table, state, number) != 2 or type(value) is not int or value < 1:
        return None
    stored = list(state[2])
    stored[number] = (stored[number][0], value)
    return state[:2] + (tuple(stored),) + state[3:]


def behind_row(table, state, move):
    """Return the state behind a row, or None."""
    _, row, maker, partner = move
    home, copy, caches = state
    if not is_place(row, table[2]) or not is_place(maker, caches):
        return None
    wanted, own, other, home2, own2, other2, others, source, back = table[2][row]
    if (home, caches[maker][0]) != (wanted, own):
        return None
    told = -1
    found = [(others[at], held) for at, held in caches]
    if other == -1:
        if partner != -1:
            return None
    else:
        if not is_place(partner, caches) or partner == maker or caches[partner][0] != other:
            return None
        told = caches[partner][1]
        found[partner] = (other2, told)
    mine = caches[maker][1]
    found[maker] = (own2, sent(source, mine, copy, told))
    return (home2, sent_back(back, mine, copy, told), tuple(found))


def sent(source, mine, homes, partners):
    """Return the copy, or the mark, that the cache that makes a row has behind it."""
    if source == "home":
        return homes
    return partners if source == "other" else mine


def sent_back(back, mine, homes, partners):
    """Return the copy, or the mark, that the home has behind a row."""
    if back == "own":
        return mine
    return partners if back == "other" else homes


def acts_in(table, stand, kinds):
    """Return the list of the acts in a stand: the moves of caches of these kinds with what they do.

    An act is a tuple of the stand behind it, the kinds of the caches that make it, the kinds
    that these have behind it, and the dict that has for each kind what others of it become.
    """
    found = []
    for row in table[2]:
        if row[0] == stand[0]:
            for own in kinds:
                if own[0] == row[1]:
                    found.extend([row_act(row, stand, own, other, kinds) for other in partners_of(row, kinds)])
    return found + store_acts(table[0], stand, kinds)


def store_acts(rights, stand, kinds):
    """Return the list of the acts in a stand that are stores of caches of these kinds."""
    found = []
    for kind in kinds:
        if rights[kind[0]] == 2:
            images = {other: (other[0], 0) for other in kinds}
            found.append(((stand[0], 0), [kind], [(kind[0], 1)], images))
    return found


def partners_of(row, kinds):
    """Return the list of the kinds that the partner of a row may have, with None for no partner."""
    if row[2] == -1:
        return [None]
    return [kind for kind in kinds if kind[0] == row[2]]


def row_act(row, stand, own, other, kinds):
    """Return what a row does that is made by a cache of a kind, with a partner of a kind or None."""
    home2, own2, other2, others, source, back = row[3:]
    images = {kind: (others[kind[0]], kind[1]) for kind in kinds}
    mark = 0 if other is None else other[1]
    behind = (home2, sent_back(back, own[1], stand[1], mark))
    mine = (own2, sent(source, own[1], stand[1], mark))
    if other is None:
        return (behind, [own], [mine], images)
    return (behind, [own, other], [mine, (other2, mark)], images)


def looked_at(count, moves, last):
    """Return a number of caches, and the same moves of these, that tell as much as so many caches do.

    In a row the numbers of caches stand from its third part to this last one, in other moves
    in the second part. All caches that no move names are alike, so one of them tells what
    there is to see: any caches of any number are looked at as fast as the first ones of few.
    """
    named = []
    for move in moves:
        first, end = places_of_caches(move, last)
        named.extend([number for number in move[first:end] if is_named(number, count)])
    places = {number: place for place, number in enumerate(sorted(set(named)))}
    found = []
    for move in moves:
        first, end = places_of_caches(move, last)
        found.append(move[:first] + tuple([places.get(part, part) for part in move[first:end]]) + move[end:])
    return min(count, len(places) + 1), found


def places_of_caches(move, last):
    """Return where the numbers of caches begin and end in a move, if those of a row end at this last part."""
    return (2, last) if move[:1] == ("row",) else (1, 2)


def is_named(number, count):
    """Tell whether a value is the number of one of so many caches."""
    return type(number) is int and 0 <= number < count


def is_fault(rights, state, moves):
    """Tell whether all stores differ, and a cache with a right has not the last value in the state behind the moves."""
    values = [move[2] for move in moves if move[0] == "store"]
    if len(set(values)) < len(values):
        return False
    last = values[-1] if values else 0
    return any(rights[at] > 0 and copy != last for at, copy in state[2])
