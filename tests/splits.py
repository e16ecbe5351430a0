"""Split tables for several tests, and plays and heaps of them that the tests make themselves, one by one."""

import itertools

# [437]: a cache asks, the home answers with its copy, a cache takes it and may write, and gives the line back.
ASKING = ((0, 1, 2), 2, 2, (
    (-1, 0, -1, -1, 0, (0, 1, 2), ((0, "own"),), "keep", "keep"),
    (0, -1, 0, 1, -1, (0, 1, 2), ((1, "home"),), "keep", "keep"),
    (-1, 0, 1, -1, 2, (0, 1, 2), (), "got", "keep"),
    (1, 2, -1, 0, 0, (0, 1, 2), (), "keep", "own"),
))
# [485]: the cache takes the message with a copy of nothing that it has sent itself.
SELF = ((0, 1), 1, 1, (
    (-1, 0, -1, -1, 0, (0, 1), ((0, "own"),), "keep", "keep"),
    (-1, 0, 0, -1, 1, (0, 1), (), "got", "keep"),
))
NO_SPLIT_ROWS = ((0, 1, 2), 1, 1, ())
SPLIT_ALONE = ((0,), 1, 1, ())
# The home alone sends its copy, at any time, to whoever takes it; who has it may write.
CARELESS = ((0, 2), 1, 1, (
    (0, -1, -1, 0, -1, (0, 1), ((0, "home"),), "keep", "keep"),
    (-1, 0, 0, -1, 1, (0, 1), (), "got", "keep"),
))
# One row for each thing that a message can do: both copies are sent, one is got, by both sides.
BOTH = ((0, 2, 1), 2, 3, (
    (0, 0, -1, 1, 1, (2, 1, 0), ((0, "own"), (0, "home")), "home", "own"),
    (1, 1, 0, 0, 2, (1, 0, 2), ((2, "got"), (0, "home")), "got", "own"),
    (0, 2, 2, 1, 1, (0, 1, 1), ((2, "got"), (2, "got")), "home", "got"),
    (-1, 1, 0, -1, 1, (0, 2, 1), ((0, "own"), (1, "got")), "keep", "keep"),
    (1, -1, 1, 0, -1, (1, 0, 0), ((1, "home"), (0, "got")), "keep", "got"),
    (0, -1, -1, 1, -1, (0, 0, 0), ((2, "home"),), "keep", "keep"),
    (-1, 2, 0, -1, 0, (0, 1, 2), (), "got", "keep"),
))


# The bars within 0, 1, 2 .. moves have these numbers of heaps, counted apart from the package.
WIDE_SPLIT_NUMBERS = (8, 24, 60, 113, 196, 347, 602, 874, 1000, 1000, 973, 887, 755, 678, 615, 485, 396, 296, 222, 186, 137, 125)
WIDE_SPLIT = ((0, 2, 1), 2, 3, (
    (0, -1, 0, 0, -1, (0, 0, 1), (), "keep", "got"),
    (1, -1, -1, 1, -1, (0, 1, 2), (), "keep", "keep"),
    (0, -1, -1, 1, -1, (2, 1, 0), (), "keep", "keep"),
    (1, 2, -1, 0, 0, (0, 1, 2), ((0, "own"),), "keep", "keep"),
    (1, 0, 1, 0, 2, (0, 1, 1), (), "home", "keep"),
    (0, -1, 1, 0, -1, (2, 0, 2), (), "keep", "keep"),
    (0, 1, 2, 0, 1, (0, 1, 2), ((1, "home"),), "keep", "own"),
    (0, 2, 2, 1, 1, (0, 1, 2), (), "home", "keep"),
    (-1, 1, 0, -1, 1, (0, 1, 2), ((2, "own"),), "keep", "keep"),
    (1, 1, 2, 0, 1, (0, 1, 0), ((1, "got"),), "keep", "own"),
    (-1, 1, 1, -1, 1, (0, 1, 0), (), "keep", "keep"),
    (-1, 2, 0, -1, 1, (0, 1, 2), (), "keep", "keep"),
    (0, 2, 1, 1, 2, (0, 1, 2), (), "keep", "keep"),
))

# Here the bar within 10 moves is too large, and the last one would not be.
TOO_WIDE_SPLIT_NUMBERS = (6, 27, 112, 368, 725, 920, 961, 971, 983, 992, 1001)
TOO_WIDE_SPLIT = ((0, 1, 2, 1, 0, 0), 1, 1, (
    (-1, 5, 0, -1, 4, (0, 2, 5, 3, 4, 0), (), "got", "keep"),
    (-1, 4, 0, -1, 5, (0, 1, 2, 5, 4, 5), (), "got", "keep"),
    (-1, 0, -1, -1, 5, (0, 1, 2, 0, 4, 5), ((0, "own"),), "keep", "keep"),
    (0, 3, 0, 0, 1, (0, 1, 2, 3, 4, 5), ((0, "home"),), "home", "own"),
    (-1, 3, 0, -1, 2, (0, 1, 2, 3, 4, 5), ((0, "own"),), "got", "keep"),
    (0, 1, 0, 0, 5, (0, 1, 2, 3, 4, 5), (), "got", "got"),
    (-1, 1, 0, -1, 4, (2, 4, 1, 1, 5, 5), (), "keep", "keep"),
    (-1, 2, 0, -1, 1, (0, 5, 4, 3, 4, 5), ((0, "own"),), "keep", "keep"),
    (-1, 3, -1, -1, 5, (0, 1, 2, 3, 4, 5), ((0, "own"),), "keep", "keep"),
    (-1, 0, 0, -1, 5, (3, 0, 2, 1, 4, 5), ((0, "got"), (0, "got")), "got", "keep"),
    (0, 1, -1, 0, 5, (0, 1, 2, 3, 4, 5), (), "keep", "keep"),
    (0, 2, 0, 0, 1, (0, 1, 2, 3, 4, 5), (), "keep", "keep"),
    (0, 5, -1, 0, 4, (0, 1, 2, 3, 4, 5), (), "keep", "keep"),
    (0, 2, 0, 0, 4, (0, 0, 2, 3, 4, 5), ((0, "home"),), "home", "got"),
    (0, 0, 0, 0, 5, (0, 1, 2, 3, 4, 5), (), "home", "own"),
))


def random_split(source, most_states=8, most_homes=6, most_kinds=8, most_rows=40):
    """Return a split table made by chance."""
    size, homes, kinds = source.randint(1, most_states), source.randint(1, most_homes), source.randint(1, most_kinds)
    rights = (0,) + tuple(source.choice((0, 1, 2)) for _ in range(size - 1))
    rows = tuple(random_split_row(source, size, homes, kinds) for _ in range(source.randint(0, most_rows)))
    return (rights, homes, kinds, rows)


def random_split_row(source, size, homes, kinds):
    """Return a row made by chance."""
    parts = source.choice(("home", "own", "both", "both"))
    has_home, has_own, has_got = parts != "own", parts != "home", source.random() < 0.5
    words = ["own"] * has_own + ["home"] * has_home + ["got"] * has_got
    spread = source.choice((0, 0.2, 0.6))
    return (
        source.randrange(homes) if has_home else -1,
        source.randrange(size) if has_own else -1,
        source.randrange(kinds) if has_got else -1,
        source.randrange(homes) if has_home else -1,
        source.randrange(size) if has_own else -1,
        tuple(source.randrange(size) if source.random() < spread else state for state in range(size)),
        tuple((source.randrange(kinds), source.choice(words)) for _ in range(source.choice((0, 0, 1, 1, 2)))),
        source.choice(["keep"] + [word for word in words if word != "own"]) if has_own else "keep",
        source.choice(["keep"] + [word for word in words if word != "home"]) if has_home else "keep",
    )


def nearby_split(source, table, changes=1):
    """Return a split table in which so many rows have one value that is made by chance."""
    rights, homes, kinds, rows = table
    rows = list(rows)
    for _ in range(changes):
        number = source.randrange(len(rows))
        row = list(rows[number])
        at = source.choice([at for at in (0, 1, 2, 3, 4, 5, 6) if row[at] not in (-1, ())])
        if at == 5:
            row[5] = tuple(source.choice((state, state, 0)) for state in range(len(rights)))
        elif at == 6:
            row[6] = ((source.randrange(kinds), row[6][0][1]),) + row[6][1:]
        else:
            row[at] = source.randrange((homes, len(rights), kinds, homes, len(rights))[at])
        rows[number] = tuple(row)
    return (rights, homes, kinds, tuple(rows))


class Play:
    """A play with marks, whose caches and messages are changed one by one."""

    def __init__(self, table, n):
        self.table = table
        self.home, self.value, self.fresh = 0, 0, 1
        self.caches = [{"state": 0, "copy": -1, "mark": 0} for _ in range(n)]
        self.net = []

    def sort(self):
        self.net.sort(key=lambda one: (one["kind"], one["copy"], one["mark"]))

    def can_row(self, r, k, i):
        home, own, gets = self.table[3][r][:3]
        if home != -1 and home != self.home:
            return False
        if (own == -1) != (k == -1) or (gets == -1) != (i == -1):
            return False
        if k != -1 and not (k in range(len(self.caches)) and self.caches[k]["state"] == own):
            return False
        return i == -1 or (i in range(len(self.net)) and self.net[i]["kind"] == gets)

    def step(self, move):
        """Make a move, or tell that it is not allowed."""
        caches = self.caches
        if move[0] == "load":
            return move[1] in range(len(caches)) and self.table[0][caches[move[1]]["state"]] > 0
        if move[0] == "store":
            if move[1] not in range(len(caches)) or self.table[0][caches[move[1]]["state"]] < 2:
                return False
            self.fresh = 0
            for one in caches + self.net:
                one["mark"] = 0
            caches[move[1]].update(copy=move[2], mark=1)
            return True
        _, r, k, i = move
        if r not in range(len(self.table[3])) or not self.can_row(r, k, i):
            return False
        home, own, gets, home2, own2, others, sends, source, back = self.table[3][r]
        told = {"home": (self.value, self.fresh)}
        if k != -1:
            told["own"] = (caches[k]["copy"], caches[k]["mark"])
        if i != -1:
            gone = self.net.pop(i)
            told["got"] = (gone["copy"], gone["mark"])
        for at, one in enumerate(caches):
            one["state"] = own2 if at == k else others[one["state"]]
        if source != "keep":
            caches[k]["copy"], caches[k]["mark"] = told[source]
        if back != "keep":
            self.value, self.fresh = told[back]
        if home != -1:
            self.home = home2
        for kind, word in sends:
            self.net.append({"kind": kind, "copy": told[word][0], "mark": told[word][1]})
        self.sort()
        return True

    def state(self):
        caches = tuple((one["state"], one["copy"]) for one in self.caches)
        return (self.home, self.value, caches, tuple((one["kind"], one["copy"]) for one in self.net))

    def marks(self):
        return (self.fresh, tuple(one["mark"] for one in self.caches), tuple(one["mark"] for one in self.net))

    def heap(self):
        crowd = [(one["state"], one["mark"]) for one in self.caches]
        return ((self.home, self.fresh), tallied(crowd), tallied([(one["kind"], one["mark"]) for one in self.net]))

    def rows(self):
        """Return all rows that can be made, in order."""
        found = []
        for r in range(len(self.table[3])):
            for k in range(-1, len(self.caches)):
                found += [("row", r, k, i) for i in range(-1, len(self.net)) if self.can_row(r, k, i)]
        return found

    def rights(self, least):
        return [k for k, one in enumerate(self.caches) if self.table[0][one["state"]] >= least]

    def clone(self):
        other = Play(self.table, 0)
        other.home, other.value, other.fresh = self.home, self.value, self.fresh
        other.caches = [dict(one) for one in self.caches]
        other.net = [dict(one) for one in self.net]
        return other

    def behind(self, move):
        """Return a new play with one move more."""
        other = self.clone()
        assert other.step(move), move
        return other

    def moves(self):
        return self.rows() + [("load", k) for k in self.rights(1)]


def tallied(kinds):
    """Return how many there are of each kind, as a crowd or a net."""
    return tuple((s, m, kinds.count((s, m))) for s, m in sorted(set(kinds)))


def played(table, n, moves):
    """Return a play behind some moves, all of them allowed."""
    play = Play(table, n)
    for move in moves:
        assert play.step(move), move
    return play


def random_moves(source, table, n, length, values=(1, 2), most_under_way=6):
    """Return a play made by chance, with stores."""
    play, moves = Play(table, n), []
    for _ in range(length):
        allowed = play.moves() + [("store", k, value) for k in play.rights(2) for value in values]
        if len(play.net) > most_under_way:
            taking = [move for move in allowed if move[0] == "row" and move[3] != -1]
            allowed = taking or allowed
        if allowed:
            moves.append(source.choice(allowed))
            assert play.step(moves[-1])
    return moves


def from_heap(table, heap):
    """Return a play with the caches and messages of a heap, with copies that are their marks."""
    stand, crowd, net = heap
    play = Play(table, 0)
    play.home, play.value, play.fresh = stand[0], stand[1], stand[1]
    play.caches = [{"state": s, "copy": m, "mark": m} for s, m, number in crowd for _ in range(number)]
    play.net = [{"kind": s, "copy": m, "mark": m} for s, m, number in net for _ in range(number)]
    play.sort()
    return play


def heap_step(table, heap, move):
    """Return the heap behind a move of heaps, or None, by one cache and one message of the wanted kinds."""
    play = from_heap(table, heap)
    if move[0] == "store":
        told = [("store", k, 1) for k, one in enumerate(play.caches) if (one["state"], one["mark"]) == move[1:]]
    else:
        _, r, x, y = move
        _, own, gets = table[3][r][:3]
        ks = [k for k, one in enumerate(play.caches) if (one["state"], one["mark"]) == (own, x)] if own != -1 else [-1]
        wanted = [i for i, one in enumerate(play.net) if (one["kind"], one["mark"]) == (gets, y)] if gets != -1 else [-1]
        if (own == -1) != (x == -1) or (gets == -1) != (y == -1):
            return None
        told = [("row", r, k, i) for k in ks for i in wanted]
    if not told or not play.step(told[0]):
        return None
    return play.heap()


def all_heap_moves(table):
    """Return all moves of heaps, whatever there is, in order."""
    found = []
    for r, row in enumerate(table[3]):
        found += [("row", r, x, y) for x in ((-1,) if row[1] == -1 else (0, 1)) for y in ((-1,) if row[2] == -1 else (0, 1))]
    return found + [("store", s, x) for s, right in enumerate(table[0]) if right == 2 for x in (0, 1)]


def steps_from(table, heap):
    """Return the list of the pairs of a move and the heap behind it, in order."""
    pairs = [(move, heap_step(table, heap, move)) for move in all_heap_moves(table)]
    return [(move, behind) for move, behind in pairs if behind is not None]


def random_heap_run(source, table, heap, length):
    """Return the moves and the heaps of a run made by chance."""
    moves, heaps = [], [heap]
    for _ in range(length):
        pairs = steps_from(table, heaps[-1])
        if pairs:
            move, behind = source.choice(pairs)
            moves.append(move)
            heaps.append(behind)
    return moves, heaps


def is_below_by_words(one, other):
    """Tell whether a heap is below another one."""
    for few, many in zip(one[1:], other[1:]):
        there = {(s, m): number for s, m, number in many}
        if any(number > there.get((s, m), 0) for s, m, number in few):
            return False
    return one[0] == other[0]


def least(heaps):
    """Return the ascending list of the least ones of some heaps."""
    return sorted(h for h in set(heaps) if not any(g != h and is_below_by_words(g, h) for g in heaps))


def is_bad_by_words(table, heap):
    return any(m == 0 and table[0][s] > 0 for s, m, _ in heap[1])


def met_by_words(table):
    """Return the met stands, kinds of caches and kinds of messages, as [430] tells them, row by row."""
    stands, kinds, notes = {(0, 1)}, {(0, 0)}, set()
    while True:
        known = (set(stands), set(kinds), set(notes))
        for home, fresh in known[0]:
            for h, own, gets, h2, own2, others, sends, source, back in table[3]:
                if h not in (-1, home):
                    continue
                makers = [m for s, m in known[1] if s == own] if own != -1 else [None]
                taken = [m for s, m in known[2] if s == gets] if gets != -1 else [None]
                for x, y in itertools.product(makers, taken):
                    told = {"own": x, "home": fresh, "got": y}
                    stands.add((home if h == -1 else h2, fresh if back == "keep" else told[back]))
                    if own != -1:
                        kinds.add((own2, x if source == "keep" else told[source]))
                    notes.update((kind, told[word]) for kind, word in sends)
                    kinds.update((others[s], m) for s, m in known[1])
            for state, _ in known[1]:
                if table[0][state] == 2:
                    stands.add((home, 0))
                    kinds.add((state, 1))
                    kinds.update((s, 0) for s, _ in known[1])
                    notes.update((s, 0) for s, _ in known[2])
        if known == (stands, kinds, notes):
            return sorted(stands), sorted(kinds), sorted(notes)


def crowds_over(kinds, most):
    """Return all crowds of these kinds with at most so many caches, or nets likewise."""
    found = []
    for n in range(most + 1):
        for picked in itertools.combinations_with_replacement(sorted(kinds), n):
            found.append(tallied(list(picked)))
    return found


def heaps_over(stands, kinds, notes, caches, messages):
    """Return all heaps with these stands and kinds, and with at most so many caches and messages."""
    crowds, nets = crowds_over(kinds, caches), crowds_over(notes, messages)
    return [(stand, crowd, net) for stand in stands for crowd in crowds for net in nets]


def counts(heap):
    """Return how many caches and how many messages a heap has."""
    return tuple(sum(number for _, _, number in part) for part in heap[1:])


def all_stands(table):
    return [(h, m) for h in range(table[1]) for m in (0, 1)]


def all_kinds(table):
    return [(s, m) for s in range(len(table[0])) for m in (0, 1)]


def all_notes(table):
    return [(s, m) for s in range(table[2]) for m in (0, 1)]


def dealt(entries, sources):
    """Return all crowds that come of entries, each of which may be any one of its sources."""
    found = {()}
    for s, m, number in entries:
        for _ in range(number):
            found = {tuple(sorted(told + (kind,))) for told in found for kind in sources((s, m))}
    return found


def taken_away(part, kinds):
    """Return a crowd or a net with one less of each of some kinds, if there is one."""
    left = {(s, m): number for s, m, number in part}
    for kind in kinds:
        if left.get(kind, 0) > 0:
            left[kind] -= 1
    return tuple((*kind, left[kind]) for kind in sorted(left) if left[kind] > 0)


def backs_by_words(table, heap):
    """Return all steps back of a heap of what is met, as [433] to [435] tell them."""
    stands, kinds, notes = met_by_words(table)
    found = []
    for stand in stands:
        for row in table[3]:
            home, own, gets, home2, own2, others, sends, source, back = row
            if home not in (-1, stand[0]):
                continue
            for x in [m for s, m in kinds if s == own] if own != -1 else [-1]:
                for y in [m for s, m in notes if s == gets] if gets != -1 else [-1]:
                    told = {"own": x, "home": stand[1], "got": y}
                    if heap[0] != (stand[0] if home == -1 else home2, stand[1] if back == "keep" else told[back]):
                        continue
                    made = [(own2, x if source == "keep" else told[source])] if own != -1 else []
                    crowd = taken_away(heap[1], made)
                    net = taken_away(heap[2], [(kind, told[word]) for kind, word in sends])
                    nets = [(s, m) for s, m, number in net for _ in range(number)] + ([(gets, y)] if gets != -1 else [])
                    for one in dealt(crowd, lambda kind: [(s, m) for s, m in kinds if (others[s], m) == kind]):
                        found.append((stand, tallied(list(one) + ([(own, x)] if own != -1 else [])), tallied(nets)))
        if heap[0] == (stand[0], 0):
            for s, m in kinds:
                if table[0][s] == 2:
                    crowd = taken_away(heap[1], [(s, 1)])
                    ahead = dealt(crowd, lambda kind: [one for one in kinds if (one[0], 0) == kind])
                    nets = dealt(heap[2], lambda kind: [one for one in notes if (one[0], 0) == kind])
                    found += [(stand, tallied(list(one) + [(s, m)]), tallied(list(net))) for one in ahead for net in nets]
    return found


def least_bad_by_words(table):
    stands, kinds, _ = met_by_words(table)
    return [(stand, ((s, 0, 1),), ()) for stand in stands for s, m in kinds if m == 0 and table[0][s] > 0]


def layers_by_words(table, most):
    """Return the bars within 0, 1, .. moves."""
    bars = [least_bad_by_words(table)]
    backs = {}
    for _ in range(most):
        for heap in bars[-1]:
            if heap not in backs:
                backs[heap] = backs_by_words(table, heap)
        bars.append(least(bars[-1] + [back for heap in bars[-1] for back in backs[heap]]))
    return bars


class Forward:
    """The least number of moves from heaps to bad ones, looked for forwards."""

    def __init__(self, table):
        self.table = table
        self.known = {}
        self.behind = {}

    def comes(self, heap, most):
        """Tell whether a heap comes to a bad one with at most so many moves."""
        if is_bad_by_words(self.table, heap):
            return True
        if most == 0:
            return False
        if (heap, most) not in self.known:
            if heap not in self.behind:
                self.behind[heap] = {told for _, told in steps_from(self.table, heap)}
            self.known[heap, most] = any(self.comes(told, most - 1) for told in self.behind[heap])
        return self.known[heap, most]


def shortest_bad(table, n, most):
    """Return the least number of moves of a play with n caches behind which one with a right has an old copy.

    Plays with at most so many moves are looked at; what copies are fresh is told by the marks alone.
    """
    def seen(play):
        return (play.home, play.marks(), tuple(one["state"] for one in play.caches), tuple(one["kind"] for one in play.net))

    layer, known = [Play(table, n)], {seen(Play(table, n))}
    for length in range(most + 1):
        reached = []
        for play in layer:
            if any(play.caches[k]["mark"] == 0 for k in play.rights(1)):
                return length
            for move in play.rows() + [("store", k, 1) for k in play.rights(2)]:
                other = play.behind(move)
                for one in other.caches + other.net:
                    one["copy"] = one["mark"]
                other.sort()
                if seen(other) not in known:
                    known.add(seen(other))
                    reached.append(other)
        layer = reached
    return None


def passing_states(table):
    """Return all pairs of a state and its stores that come in the plays of [443], as play after play makes them."""
    begin = Play(table, 2)
    found, todo = {(begin.state(), 0)}, [(begin, 0)]
    while todo:
        play, stores = todo.pop()
        told = [(play.behind(move), stores) for move in play.rows()]
        if stores == 0 and 0 in play.rights(2):
            told.append((play.behind(("store", 0, 1)), 1))
        for other, number in told:
            if len(other.net) <= 4 and (other.state(), number) not in found:
                found.add((other.state(), number))
                todo.append((other, number))
    return found


def passing_search(table):
    """Return how many pairs of a state and its stores come in the plays of [443], and how short a passing run is."""
    begin = Play(table, 2)
    found, layer, shortest, length = {(begin.state(), 0)}, [(begin, 0)], None, 0
    while layer:
        reached = []
        for play, stores in layer:
            if shortest is None and 1 in play.rights(1) and play.caches[1]["copy"] == 1:
                shortest = length + 1
            told = [(play.behind(move), stores) for move in play.rows()]
            if stores == 0 and 0 in play.rights(2):
                told.append((play.behind(("store", 0, 1)), 1))
            for other, number in told:
                if len(other.net) <= 4 and (other.state(), number) not in found:
                    found.add((other.state(), number))
                    reached.append((other, number))
        layer = reached
        length += 1
    return len(found), shortest


def with_parts(parts):
    """Return a split table of two caches that come to one state at first, and then to so many in each of some parts.

    A part (m, s) has m kinds of messages, which the home sends, and s states of caches.
    """
    same = tuple(range(8))
    rows = []
    for home, (kinds, states) in enumerate(parts, 1):
        rows.append((0, -1, -1, home, -1, same, (), "keep", "keep"))
        rows += [(home, -1, -1, home, -1, same, ((kind, "home"),), "keep", "keep") for kind in range(kinds)]
        rows += [(home, 0, -1, home, state, same, (), "keep", "keep") for state in range(1, states)]
    return ((0,) * 8, 6, 8, tuple(rows))


# Together with the state at the beginning these are 20,000 states, and 20,001.
TWENTY_THOUSAND = with_parts(((8, 5), (2, 2), (0, 2), (6, 6)))
ONE_MORE = with_parts(((8, 5), (2, 2), (1, 1), (6, 6)))


class Machine:
    """A split machine whose lines are plays and whose cores are changed one by one."""

    def __init__(self, table, program):
        self.table, self.program = table, program
        self.lines = [Play(table, len(program)) for _ in range(4)]
        self.made = [0] * len(program)
        self.waiting = [[] for _ in program]
        self.told = [[] for _ in program]

    def can_use(self, line, c, least):
        return c in self.lines[line].rights(least)

    def step(self, move):
        """Make a move, or tell that it cannot be made."""
        if move[0] == "row":
            return len(move) == 5 and move[1] in range(4) and self.lines[move[1]].step(("row",) + move[2:])
        if len(move) != 2 or move[0] not in ("make", "drain") or move[1] not in range(len(self.program)):
            return False
        c = move[1]
        waiting = self.waiting[c]
        if move[0] == "drain":
            if not waiting or not self.can_use(waiting[0][0], c, 2):
                return False
            line, value = waiting.pop(0)
            return self.lines[line].step(("store", c, value))
        if self.made[c] == len(self.program[c]):
            return False
        word, *rest = self.program[c][self.made[c]]
        if word in ("swap", "fence") and waiting:
            return False
        if word in ("load", "swap"):
            own = [value for line, value in waiting if line == rest[0]]
            if not own and not self.can_use(rest[0], c, 1 if word == "load" else 2):
                return False
            self.told[c].append(own[-1] if own else self.lines[rest[0]].caches[c]["copy"])
        if word == "swap":
            self.lines[rest[0]].step(("store", c, rest[1]))
        if word == "store":
            waiting.append(tuple(rest))
        self.made[c] += 1
        return True

    def state(self):
        cores = tuple((m, tuple(w), tuple(t)) for m, w, t in zip(self.made, self.waiting, self.told))
        return (tuple(line.state() for line in self.lines), cores)

    def seen(self):
        return tuple((m, tuple(t)) for m, t in zip(self.made, self.told))

    def rows(self):
        return [("row", line) + move[1:] for line in range(4) for move in self.lines[line].rows()]


def machine_behind(table, program, moves):
    """Return a machine behind a run, or the index of the first move that cannot be made."""
    machine = Machine(table, program)
    for at, move in enumerate(moves):
        if not machine.step(move):
            return at
    return machine


def random_machine_moves(source, table, program, most, lines=(0, 1), most_under_way=4):
    """Return a run by chance; cores move oftener than rows."""
    machine, moves = Machine(table, program), []
    for _ in range(most):
        rows = [move for move in machine.rows() if move[1] in lines]
        if any(len(machine.lines[line].net) > most_under_way for line in lines):
            rows = [move for move in rows if move[4] != -1] or rows
        cores = [(word, c) for word in ("make", "drain") for c in range(len(program))]
        move = source.choice(cores if not rows or source.random() < 0.4 else rows)
        if machine.step(move):
            moves.append(move)
    return moves


# The first cache sends its state on, message by message, and the last of so many caches, 2 to 33, has a right and no copy.
def split_counting(count):
    same = tuple(range(8))
    rows = [(0, 0, -1, 0, 1, same, ((0, "own"),), "keep", "keep")]
    # The home counts the caches together with the message that is under way.
    for at in range(count - 1):
        home, kind = at // 8, at % 8
        last = at == count - 2
        home2, kind2 = (at + 1) // 8, (at + 1) % 8
        sends = () if last else ((kind2, "got"),)
        rows.append((home, 0, kind, home if last else home2, 2 if last else 1, same, sends, "keep", "keep"))
    return ((0, 0, 1, 0, 0, 0, 0, 0), 6, 8, tuple(rows))


def with_one_store():
    """Return a split table with 20,000 states with one store at the most, and more if there could be two.

    Behind a store, and a message with the stored copy, the cache takes the copy of the home: a
    second store would lead to a state to which one store alone does not lead.
    """
    rights, homes, kinds, rows = with_parts(((8, 5), (6, 5), (6, 3)))
    same = tuple(range(8))
    return ((0, 0, 0, 0, 0, 2, 2, 2), homes, kinds, rows + (
        (0, -1, -1, 5, -1, same, (), "keep", "keep"), (5, 0, -1, 5, 6, same, (), "keep", "keep"),
        (5, 6, -1, 5, 7, same, ((0, "own"),), "keep", "keep"), (5, 7, -1, 5, 5, same, (), "home", "keep"),
        (5, 0, -1, 5, 4, same, ((3, "own"),), "keep", "keep"), (5, -1, -1, 5, -1, same, ((1, "home"),), "keep", "keep"),
        (5, -1, -1, 5, -1, same, ((2, "home"),), "keep", "keep"),
    ))
