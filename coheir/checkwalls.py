"""The checker's look at lists: what is closed, and what is a wall."""

from coheir.checkforms import is_heap_of, is_kind_of, is_stand_of
from coheir.checkmoves import acts_in


def lists_are_closed(table, stands, kinds):
    """Tell whether a list of stands and a list of kinds are closed."""
    if not all(is_stand_of(table, stand) for stand in stands):
        return False
    if not all(is_kind_of(table, kind) for kind in kinds):
        return False
    return have_all_behind(stands, kinds, all_acts(table, stands, kinds))


def all_acts(table, stands, kinds):
    """Return the dict of the lists of the acts in each stand of a list, by caches of the kinds of a list."""
    return {stand: acts_in(table, stand, once(kinds)) for stand in once(stands)}


def have_all_behind(stands, kinds, acts):
    """Tell whether stands and kinds have what there is at the beginning, and all that the acts make."""
    if (0, 1) not in stands or (0, 0) not in kinds:
        return False
    for told in acts.values():
        for behind, _, made, images in told:
            if behind not in stands or not all(kind in kinds for kind in made):
                return False
            if not all(image in kinds for image in images.values()):
                return False
    return True


def once(entries):
    """Return the ascending list of some entries, each once."""
    return sorted(set(entries))


def heaps_are_closed(table, stands, kinds, heaps):
    """Tell whether a list of heaps is a wall for two closed lists."""
    if not all(is_heap_of(table, heap) for heap in heaps):
        return False
    return are_held(table[0], kinds, all_acts(table, stands, kinds), heaps)


def are_held(rights, kinds, acts, heaps):
    """Tell whether heaps are a wall for closed lists: for the kinds, and for the stands of the acts."""
    crowds = {stand: [] for stand in acts}
    for stand, crowd in once(heaps):
        if stand not in crowds or not all(entry[:2] in kinds for entry in crowd):
            return False
        crowds[stand].append(crowd)
    if not bad_are_above(rights, once(kinds), crowds):
        return False
    for stand in acts:
        for act in acts[stand]:
            if not all(backs_are_above(act, crowd, crowds[stand]) for crowd in crowds.get(act[0], [])):
                return False
    return True


def bad_are_above(rights, kinds, crowds):
    """Tell whether for each stand each least bad heap is above one of the crowds of this stand."""
    nobody = {kind: 0 for kind in kinds}
    for kind in kinds:
        if kind[1] == 0 and rights[kind[0]] > 0:
            alone = more_of(nobody, kind, 1)
            if not all(is_above_one(alone, told) for told in crowds.values()):
                return False
    return True


def more_of(numbers, kind, more):
    """Return a dict of numbers with more of one kind."""
    found = {told: numbers[told] for told in numbers}
    found[kind] += more
    return found


def is_above_one(numbers, crowds):
    """Tell whether a heap with these numbers is above one of some crowds."""
    return any(is_above(numbers, crowd) for crowd in crowds)


def is_above(numbers, crowd):
    """Tell whether of no kind a crowd has more."""
    for state, mark, number in crowd:
        if numbers[state, mark] < number:
            return False
    return True


def backs_are_above(act, crowd, wall):
    """Tell whether all steps back of a crowd by an act are above one of the crowds of a wall."""
    _, makers, made, images = act
    left = {(state, mark): number for state, mark, number in crowd}
    for kind in made:
        if left.get(kind, 0) > 0:
            left[kind] -= 1
    numbers = {kind: 0 for kind in images}
    for kind in makers:
        numbers[kind] += 1
    shared = []
    for image, number in left.items():
        sources = [kind for kind in images if images[kind] == image]
        if number > 0 and not sources:
            return True
        if len(sources) == 1:
            numbers[sources[0]] += number
        elif number > 0:
            shared.append((number, sources))
    return deals_are_above(numbers, shared, wall)


def deals_are_above(numbers, shared, wall):
    """Tell whether all ways to deal what is shared lead to heaps above one of the crowds of a wall.

    `numbers` tells what each kind has already, and `shared` is a list of pairs of a number
    and the kinds among which it is dealt. If what is there is above a crowd, nothing dealt
    changes that; so each way is followed only as far as that is not so.
    """
    if is_above_one(numbers, wall):
        return True
    if not shared:
        return False
    number, sources = shared[0]
    kind = sources[0]
    for share in shares_of(number, sources, numbers, wall):
        rest = [(number - share, sources[1:])] if share < number else []
        if not deals_are_above(more_of(numbers, kind, share), rest + shared[1:], wall):
            return False
    return True


def shares_of(number, sources, numbers, wall):
    """Return the shares of the first of some kinds that have to be looked at.

    Of all shares with which the kind reaches as many crowds of a wall, the greatest one
    leaves the least for the other kinds: if no way with such a share misses the wall, none does.
    """
    if len(sources) == 1:
        return [number]
    found = {number: True}
    for crowd in wall:
        for state, mark, wanted in crowd:
            if (state, mark) == sources[0] and 0 < wanted - numbers[state, mark] <= number:
                found[wanted - numbers[state, mark] - 1] = True
    return sorted(found)
