import unittest

from coheir.errors import BadMove, BadNumber, NotState, NotTable
from coheir.lineplay import (
    check_state, is_state, line_begin, line_behind, loads_on, moves_in, play, states_on,
)
from coheir.samples import mesi, mosi, msi
from support import NO_ROWS, chance, random_table

EXAMPLE = [("row", 2, 0, -1), ("store", 0, 5), ("row", 1, 1, 0), ("load", 1)]
WRONG = ((1,), 1, ())

# All sources and backs, with a partner: the rows only move copies.
COPIES = ((0, 2), 1, tuple(
    (0, 1, 1, 0, 1, 1, (0, 1), source, back)
    for source in ("keep", "home", "other")
    for back in ("keep", "own", "other")
))


def all_moves(table, state, values=(1, 2)):
    """Return the allowed moves, the stores with some values too."""
    caches = state[2]
    stores = [("store", k, value) for k, cache in enumerate(caches) if table[0][cache[0]] == 2 for value in values]
    return moves_in(table, state) + stores


def random_play(source, table, n, length, values=(1, 2)):
    """Return a play made by chance, and its states."""
    state, moves, states = line_begin(n), [], [line_begin(n)]
    for _ in range(length):
        allowed = all_moves(table, state, values)
        if allowed:
            moves.append(source.choice(allowed))
            state = line_behind(table, state, moves[-1])
            states.append(state)
    return moves, states


class StateTests(unittest.TestCase):
    """[30], [31]"""

    def test_begin(self):
        self.assertEqual(line_begin(0), (0, 0, ()))
        self.assertEqual(line_begin(3), (0, 0, ((0, -1), (0, -1), (0, -1))))

    def test_states(self):
        for state in (
            line_begin(0), line_begin(5), (1, -1, ((2, 10 ** 30),)), (1, 7, ((0, 0),) * 40), (0, 10 ** 30, ()),
        ):
            self.assertIs(is_state(msi(), state), True)
            self.assertIsNone(check_state(msi(), state))

    def test_no_states(self):
        for state in (
            (2, 0, ()), (-1, 0, ()), (0, -2, ()), ("0", 0, ()), (0, "0", ()), (0, 0, ((3, 0),)), (0, 0, ((-1, 0),)),
            (0, 0, ((0, -2),)), (0, 0, ((0, -1), (0, "1"))), (0, 0, (("x", 1),)), (True, 0, ()), (0, False, ()),
            (0, 0, ((True, 0),)), (0, 0, ((0, True),)),
        ):
            self.assertIs(is_state(msi(), state), False)
            with self.assertRaises(NotState):
                check_state(msi(), state)
            with self.assertRaises(NotState):
                moves_in(msi(), state)

    def test_no_table(self):
        for function in (is_state, check_state, moves_in):
            with self.assertRaises(NotTable):
                function(WRONG, (9, 9, ()))
        for function in (states_on, play, loads_on):
            with self.assertRaises(NotTable):
                function(WRONG, -1, [("load", 0)])


class MoveTests(unittest.TestCase):
    """[3], [32], [33], [34]"""

    def test_example(self):
        self.assertEqual(play(msi(), 2, EXAMPLE), (0, 5, ((1, 5), (1, 5))))
        self.assertEqual(loads_on(msi(), 2, EXAMPLE), [(3, 1, 5)])
        self.assertEqual(states_on(msi(), 2, EXAMPLE), [
            (0, 0, ((0, -1), (0, -1))),
            (1, 0, ((2, 0), (0, -1))),
            (1, 0, ((2, 5), (0, -1))),
            (0, 5, ((1, 5), (1, 5))),
            (0, 5, ((1, 5), (1, 5))),
        ])

    def test_no_moves(self):
        for n in (0, 1, 4):
            self.assertEqual(play(msi(), n, []), line_begin(n))
            self.assertEqual(states_on(msi(), n, []), [line_begin(n)])
            self.assertEqual(loads_on(msi(), n, []), [])

    def test_copies(self):
        state = (0, 7, ((1, 8), (1, 9), (1, 6)))
        expected = {"keep": 8, "home": 7, "other": 9}
        homes = {"keep": 7, "own": 8, "other": 9}
        for number, row in enumerate(COPIES[2]):
            self.assertEqual(
                line_behind(COPIES, state, ("row", number, 0, 1)),
                (0, homes[row[8]], ((1, expected[row[7]]), (1, 9), (1, 6))),
            )
            self.assertEqual(
                line_behind(COPIES, state, ("row", number, 2, 0)),
                (0, {"keep": 7, "own": 6, "other": 8}[row[8]],
                 ((1, 8), (1, 9), (1, {"keep": 6, "home": 7, "other": 8}[row[7]]))),
            )

    def test_others(self):
        table = ((0, 1, 1, 2), 1, ((0, 0, 1, 0, 3, 2, (1, 3, 0, 2), "keep", "keep"),))
        state = (0, 0, ((2, 5), (0, 4), (1, 3), (1, 2), (0, 1), (3, -1)))
        self.assertEqual(
            line_behind(table, state, ("row", 0, 1, 3)),
            (0, 0, ((0, 5), (3, 4), (3, 3), (2, 2), (1, 1), (2, -1))),
        )

    def test_rows_that_are_not_allowed(self):
        state = play(msi(), 3, EXAMPLE[:2])
        self.assertEqual(state, (1, 0, ((2, 5), (0, -1), (0, -1))))
        for move in (
            ("row", 0, 1, -1), ("row", 3, 1, -1), ("row", 3, 1, 1), ("row", 3, 1, 2), ("row", 3, 0, 0),
            ("row", 3, 0, 1), ("row", 3, 3, 0), ("row", 3, -2, 0), ("row", 3, 1, 3), ("row", 3, 1, -2),
            ("row", 7, 1, 0), ("row", -4, 1, 0), ("row", -1, 0, -1), ("row", 3, -1, 0), ("row", 6, 0, -2), ("row", 6, 0, 1), ("row", 6, 0, 0), ("row", 6, 1, -1),
            ("row", "3", 1, 0), ("row", 3, "1", 0), ("row", 3, 1, "0"), ("row", 3, True, 0), ("row", 3, 1, False),
            ("row", 3, 1), ("row", 3), ("row",), ("rows", 3, 1, 0), ("load", 3, 1, 0), (3, 3, 1, 0), (),
        ):
            self.assertIsNone(line_behind(msi(), state, move), move)
        self.assertIsNotNone(line_behind(msi(), state, ("row", 3, 1, 0)))
        self.assertIsNotNone(line_behind(msi(), state, ("row", 6, 0, -1)))

    def test_partner_is_another_cache(self):
        table = ((0, 1), 1, ((0, 0, 0, 0, 1, 1, (0, 1), "keep", "keep"),))
        self.assertIsNone(line_behind(table, line_begin(1), ("row", 0, 0, 0)))
        self.assertIsNone(line_behind(table, line_begin(2), ("row", 0, 0, 0)))
        self.assertEqual(line_behind(table, line_begin(2), ("row", 0, 0, 1)), (0, 0, ((1, -1), (1, -1))))

    def test_loads(self):
        state = (0, 3, ((0, 1), (1, 2), (2, 3)))
        self.assertIsNone(line_behind(msi(), state, ("load", 0)))
        self.assertEqual(line_behind(msi(), state, ("load", 1)), state)
        self.assertEqual(line_behind(msi(), state, ("load", 2)), state)
        for move in (("load", 3), ("load", -1), ("load", "1"), ("load", True), ("load",), ("load", 1, 1), ("lod", 1)):
            self.assertIsNone(line_behind(msi(), state, move), move)

    def test_stores(self):
        state = (0, 3, ((0, 1), (1, 2), (2, 3)))
        self.assertEqual(line_behind(msi(), state, ("store", 2, 1)), (0, 3, ((0, 1), (1, 2), (2, 1))))
        self.assertEqual(line_behind(msi(), state, ("store", 2, 10 ** 30)), (0, 3, ((0, 1), (1, 2), (2, 10 ** 30))))
        for move in (
            ("store", 2, 0), ("store", 2, -1), ("store", 0, 1), ("store", 1, 1), ("store", 3, 1), ("store", -1, 1),
            ("store", 2, "1"), ("store", 2, True), ("store", "2", 1), ("store", 2), ("store", 2, 1, 1), ("sto", 2, 1),
        ):
            self.assertIsNone(line_behind(msi(), state, move), move)

    def test_moves_in(self):
        self.assertEqual(moves_in(msi(), line_begin(0)), [])
        self.assertEqual(
            moves_in(msi(), line_begin(2)),
            [("row", 0, 0, -1), ("row", 0, 1, -1), ("row", 2, 0, -1), ("row", 2, 1, -1)],
        )
        state = (1, 0, ((0, 0), (2, 0), (0, 0), (2, 0)))
        self.assertEqual(moves_in(msi(), state), [
            ("row", 1, 0, 1), ("row", 1, 0, 3), ("row", 1, 2, 1), ("row", 1, 2, 3),
            ("row", 3, 0, 1), ("row", 3, 0, 3), ("row", 3, 2, 1), ("row", 3, 2, 3),
            ("row", 6, 1, -1), ("row", 6, 3, -1), ("load", 1), ("load", 3),
        ])
        self.assertEqual(moves_in(NO_ROWS, (0, 0, ((1, 5), (0, 5), (2, 5)))), [("load", 0), ("load", 2)])

    def test_moves_in_are_all(self):
        source = chance(4)
        for _ in range(60):
            table = random_table(source)
            _, states = random_play(source, table, source.randint(0, 4), 8)
            state = states[-1]
            n = len(state[2])
            told = [
                ("row", r, k, j) for r in range(len(table[2])) for k in range(n) for j in range(-1, n)
            ] + [("load", k) for k in range(n)]
            self.assertEqual(moves_in(table, state), [m for m in told if line_behind(table, state, m) is not None])


class PlayTests(unittest.TestCase):
    """[35], [36], and the errors of plays"""

    def test_negative(self):
        for n in (-1, -10 ** 30):
            for function in (states_on, play, loads_on):
                with self.assertRaises(BadNumber):
                    function(msi(), n, [("load", 0)])

    def test_bad_moves(self):
        for moves, at in (
            ([("load", 0)], 0), (EXAMPLE + [("store", 0, 1)], 4), (EXAMPLE[:2] + [("x", 1)] + EXAMPLE, 2),
            (EXAMPLE[:1] + [("store", 0, 0), ("load", 9)], 1),
        ):
            for function in (states_on, play, loads_on):
                with self.assertRaises(BadMove) as caught:
                    function(msi(), 2, moves)
                self.assertEqual(caught.exception.at, at)
        with self.assertRaises(BadMove):
            play(msi(), 0, [("row", 0, 0, -1)])

    def test_lists_stay(self):
        moves = list(EXAMPLE)
        for function in (states_on, play, loads_on):
            function(msi(), 2, moves)
        self.assertEqual(moves, EXAMPLE)

    def test_lists_are_new(self):
        for call in (
            lambda: states_on(msi(), 2, EXAMPLE), lambda: loads_on(msi(), 2, EXAMPLE),
            lambda: moves_in(msi(), line_begin(2)),
        ):
            first = call()
            expected = list(first)
            first.clear()
            self.assertEqual(call(), expected)

    def test_loads_tell_copies(self):
        source = chance(5)
        for table in (msi(), mesi(), mosi()):
            moves, states = random_play(source, table, 3, 60)
            self.assertEqual(states_on(table, 3, moves), states)
            expected = [(at, m[1], states[at][2][m[1]][1]) for at, m in enumerate(moves) if m[0] == "load"]
            self.assertEqual(loads_on(table, 3, moves), expected)

    def test_values_have_no_influence(self):
        source = chance(6)
        for _ in range(40):
            table = random_table(source)
            moves, _ = random_play(source, table, 3, 20, (1, 2, 3))
            names = {-1: -1, 0: 0, 1: 10 ** 20, 2: 1, 3: 2}
            other = [m[:2] + (names[m[2]],) if m[0] == "store" else m for m in moves]
            told = [(at, k, names[value]) for at, k, value in loads_on(table, 3, moves)]
            self.assertEqual(loads_on(table, 3, other), told)

    def test_numbers_of_caches_exchanged(self):
        source = chance(7)
        places = {-1: -1, 0: 2, 1: 0, 2: 1}
        for _ in range(40):
            table = random_table(source)
            moves, _ = random_play(source, table, 3, 20)
            other = []
            for move in moves:
                if move[0] == "row":
                    other.append(("row", move[1], places[move[2]], places[move[3]]))
                else:
                    other.append((move[0], places[move[1]]) + move[2:])
            told = [(at, places[k], value) for at, k, value in loads_on(table, 3, moves)]
            self.assertEqual(loads_on(table, 3, other), told)

    def test_more_caches(self):
        source = chance(8)
        for _ in range(40):
            table = random_table(source)
            moves, _ = random_play(source, table, 2, 20)
            few, many = play(table, 2, moves), play(table, 5, moves)
            self.assertEqual(many[:2] + (many[2][:2],), few)
            self.assertEqual([copy for _, copy in many[2][2:]], [-1, -1, -1])
            self.assertEqual(loads_on(table, 2, moves), loads_on(table, 5, moves))


if __name__ == "__main__":
    unittest.main()
