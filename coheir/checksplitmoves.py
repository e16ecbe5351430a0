"""The moves of split tables that the checker makes by itself: with numbered caches, and with marks.

With marks a message is looked at as one more kind of caches, whose state is a number behind
those of the caches, and which has no right: so a crowd tells the caches and the messages.
"""

from coheir.checkmoves import behind_use, is_place, state_after, state_ahead, store_acts


def split_state_ahead(count):
    """Return the state at the beginning with so many caches."""
    return state_ahead(count) + ((),)


def split_state_led_to(table, count, moves):
    """Return the state to which a play leads, or None if some move is not allowed."""
    return state_after(table, split_state_ahead(count), moves, split_state_behind)


def split_state_behind(table, state, move):
    """Return the state behind a move, or None if it is not allowed."""
    if len(move) == 4 and move[0] == "row":
        return behind_row_of_split(table, state, move)
    return behind_use(table, state, move)


def behind_row_of_split(table, state, move):
    """Return the state behind a row, or None."""
    _, row, maker, place = move
    home, copy, caches, net = state
    if not is_place(row, table[3]):
        return None
    wanted, own, gets, home2, own2, others = table[3][row][:6]
    if wanted not in (-1, home) or not is_chosen(maker, own, caches) or not is_chosen(place, gets, net):
        return None
    mine = -1 if own == -1 else caches[maker][1]
    taken = -1 if gets == -1 else net[place][1]
    kept, given, news = copies_after(table[3][row], copy, mine, taken)
    found = [(others[at], held) for at, held in caches]
    if own != -1:
        found[maker] = (own2, given)
    left = list(net)
    if gets != -1:
        left.pop(place)
    return (home if wanted == -1 else home2, kept, tuple(found), tuple(sorted(left + news)))


def is_chosen(place, wanted, entries):
    """Tell whether a move tells the place of an entry of the wanted number, or -1 if none is wanted."""
    if wanted == -1:
        return place == -1
    return is_place(place, entries) and entries[place][0] == wanted


def copies_after(row, homes, mine, taken):
    """Return the copies, or the marks, of the home and of the cache behind a row, and the messages that it sends."""
    sends, source, back = row[6:]
    held = {"home": homes, "own": mine, "got": taken}
    news = [(kind, held[word]) for kind, word in sends]
    kept = homes if back == "keep" else held[back]
    given = mine if source == "keep" else held[source]
    return kept, given, news


def split_acts_in(table, stand, kinds):
    """Return the list of the acts in a stand, of caches and messages of these kinds, as tables have them."""
    found = []
    for row in table[3]:
        if row[0] in (-1, stand[0]):
            for own in kinds_for(row[1], 0, kinds):
                for gone in kinds_for(row[2], len(table[0]), kinds):
                    found.append(split_row_act(table, row, stand, own, gone, kinds))
    return found + store_acts(split_rights(table), stand, kinds)


def split_rights(table):
    """Return the rights of the states of caches, and of the messages behind them."""
    return table[0] + (0,) * table[2]


def kinds_for(wanted, behind, kinds):
    """Return the list of the kinds with a wanted number behind some others, with None for -1."""
    if wanted == -1:
        return [None]
    return [kind for kind in kinds if kind[0] == behind + wanted]


def split_row_act(table, row, stand, own, gone, kinds):
    """Return what a row does that is made by a cache of a kind, or None, and takes a message of a kind, or None."""
    home2, own2, others = row[3:6]
    states = len(table[0])
    mine = 0 if own is None else own[1]
    taken = 0 if gone is None else gone[1]
    kept, given, news = copies_after(row, stand[1], mine, taken)
    makers = [kind for kind in (own, gone) if kind is not None]
    made = [(states + kind, mark) for kind, mark in news]
    if own is not None:
        made.append((own2, given))
    images = {kind: ((others[kind[0]], kind[1]) if kind[0] < states else kind) for kind in kinds}
    return ((stand[0] if row[0] == -1 else home2, kept), makers, made, images)
