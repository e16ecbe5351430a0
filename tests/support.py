"""What several tests use: tables made by chance, with a fixed seed, and small known ones."""

import random

SMALL = (
    (0, 2),
    1,
    (
        (0, 0, -1, 0, 1, -1, (0, 1), "home", "keep"),
        (0, 1, -1, 0, 0, -1, (0, 1), "keep", "own"),
    ),
)

NO_ROWS = ((0, 1, 2), 1, ())

ALONE = ((0,), 1, ())


def chance(seed):
    """Return a source of random numbers that is the same in each run."""
    return random.Random(seed)


def random_table(source, most_states=8, most_homes=6, most_rows=24):
    """Return a table made by chance."""
    size = source.randint(1, most_states)
    homes = source.randint(1, most_homes)
    rights = (0,) + tuple(source.choice((0, 1, 2)) for _ in range(size - 1))
    rows = tuple(random_row(source, size, homes) for _ in range(source.randint(0, most_rows)))
    return (rights, homes, rows)


def random_row(source, size, homes):
    """Return a row made by chance."""
    partner = source.random() < 0.4
    spread = source.choice((0, 0.2, 0.6))
    others = tuple(source.randrange(size) if source.random() < spread else state for state in range(size))
    return (
        source.randrange(homes),
        source.randrange(size),
        source.randrange(size) if partner else -1,
        source.randrange(homes),
        source.randrange(size),
        source.randrange(size) if partner else -1,
        others,
        source.choice(("keep", "home", "other") if partner else ("keep", "home")),
        source.choice(("keep", "own", "other") if partner else ("keep", "own")),
    )


def changed(parts, at, value):
    """Return a tuple with another value at a place."""
    return parts[:at] + (value,) + parts[at + 1:]


def with_changed_row(table, number, at, value):
    """Return a table with another value at a place of a row."""
    return changed(table, 2, changed(table[2], number, changed(table[2][number], at, value)))


def nearby_table(source, table, changes=1):
    """Return a table in which so many rows have one value that is made by chance."""
    rights, homes, rows = table
    for _ in range(changes):
        number = source.randrange(len(rows))
        row = rows[number]
        at = source.choice((0, 1, 3, 4, 6, 7, 8))
        value = {
            0: source.randrange(homes), 1: source.randrange(len(rights)), 3: source.randrange(homes),
            4: source.randrange(len(rights)),
            6: tuple(source.choice((state, state, 0)) for state in range(len(rights))),
            7: source.choice(("keep", "home") if row[2] == -1 else ("keep", "home", "other")),
            8: source.choice(("keep", "own") if row[2] == -1 else ("keep", "own", "other")),
        }[at]
        rows = changed(rows, number, changed(row, at, value))
    return (rights, homes, rows)


def table_of(rights, homes, words):
    """Return a table whose rows are told by short words, all with a partner but those with a `-`."""
    sources = {"k": "keep", "h": "home", "o": "other"}
    backs = {"k": "keep", "o": "own", "p": "other"}
    rows = []
    for word in words.split():
        parts, others, copies = word.split("/")
        states = [-1 if part == "-" else int(part) for part in parts]
        rows.append(tuple(states) + (tuple(int(part) for part in others), sources[copies[0]], backs[copies[1]]))
    return (rights, homes, tuple(rows))


# The bars within 0, 1, 2 .. moves have these numbers of heaps, counted apart from the package.
WIDE_NUMBERS = (8, 18, 132, 448, 757, 900, 987, 1000, 962, 961, 950)
WIDE = table_of((0, 0, 0, 0, 0, 1), 4, """
    353240/012045/ho 000113/012345/hp 050240/012345/ko 34-13-/032345/ko 335044/002345/ko 310244/024345/kk
    05-01-/042345/hk 253303/012345/op 020303/012345/kk 241301/012345/op 235054/012345/ok 001210/012245/op
    305004/012345/oo 343103/012345/ko 143005/312345/ok 15-12-/012355/hk 141240/312225/ok 25-30-/012345/ko
    242305/012341/ok 040203/012345/hk 012141/012345/hk 23-30-/012345/hk 310302/012345/hp 044021/012335/kk
""")

# Here the next numbers after these would be 969, 927 and 933: the last bar is not too large.
TOO_WIDE_NUMBERS = (8, 48, 290, 734, 1001)
TOO_WIDE = table_of((0, 0, 0, 2, 0, 0, 0, 1), 2, """
    036115/01234567/ho 030012/01234567/op 133041/01234567/hp 076045/41231567/kp 030166/01234561/ok
    145004/01234567/kk 051001/01234567/hp 024111/01234367/hp 004174/01202565/kk 014040/01234567/hp
    000144/01234537/hp 163123/01234567/ho 074072/01233067/hk 011173/01234537/kp 147037/01274567/oo
    044002/01434561/ho 130166/01234467/kp 046102/71234567/ko 115134/01234567/hk 012104/01234567/ok
    046016/01234567/kp 040044/01234567/kk 102020/01204567/kp
""")
