"""Plays of split tables, [402] and [410] to [416]"""

import unittest

from coheir.errors import BadMove, BadNumber, NotState, NotTable
from coheir.lineplay import line_begin, line_behind, moves_in, play, states_on
from coheir.samples import msi
from coheir.splitplay import (
    check_split_state, is_split_state, split_begin, split_behind, split_loads_on, split_moves_in, split_play,
    split_states_on,
)
from coheir.splitsamples import split_msi
from coheir.splittables import split_of
from splits import (
    ASKING, BOTH, CARELESS, NO_SPLIT_ROWS, SELF, Play, played, random_moves, random_split,
)
from support import chance, changed, random_table

EXAMPLE = [("row", 3, 0, -1), ("row", 4, -1, 0), ("row", 5, 0, 0), ("store", 0, 5), ("row", 7, 0, -1)]
WRONG = ((1,), 1, 1, ())
BIG = 10 ** 30


class StateTests(unittest.TestCase):
    """[410], [411]"""

    def test_begin(self):
        self.assertEqual(split_begin(0), (0, 0, (), ()))
        self.assertEqual(split_begin(2), (0, 0, ((0, -1), (0, -1)), ()))

    def test_states(self):
        for state in (
            split_begin(0), split_begin(40), (4, -1, ((4, BIG),), ((0, -1), (0, 7), (4, BIG))), (0, BIG, (), ()),
            (1, 0, ((0, 0),), ((2, 5), (2, 5), (2, 5))), (0, 0, (), ((0, 9), (1, -1), (1, 0))),
        ):
            self.assertIs(is_split_state(split_msi(), state), True)
            self.assertIsNone(check_split_state(split_msi(), state))

    def test_no_states(self):
        right = (1, 3, ((0, -1), (2, 5)), ((0, 1), (4, 2)))
        self.assertTrue(is_split_state(split_msi(), right))
        wrong = [(), right[:3], right + ((),), list(right)]
        for at, values in (
            (0, (5, -1, "0", True, BIG)), (1, (-2, "0", False, -BIG)),
            (2, ([], ((5, 0),), ((-1, 0),), ((0, -2),), ((0,),), ((0, 0, 0),), (("0", 0),), ((0, "0"),), ((True, 0),), 0)),
            (3, ([], ((5, 0),), ((-1, 0),), ((0, -2),), ((0,),), ((0, 0, 0),), (("0", 0),), ((0, "0"),), ((0, True),), 0,
                 ((1, 0), (0, 0)), ((0, 1), (0, 0)), ((0, 0), (1, 5), (1, 4)))),
        ):
            wrong += [changed(right, at, value) for value in values]
        for state in wrong:
            self.assertIs(is_split_state(split_msi(), state), False, state)
            for function in (check_split_state, split_moves_in):
                with self.assertRaises(NotState):
                    function(split_msi(), state)

    def test_no_table(self):
        for function, arguments in (
            (is_split_state, (split_begin(1),)), (check_split_state, ((),)), (split_moves_in, ((),)),
            (split_states_on, (-1, [("x", 1)])), (split_play, (-1, [])), (split_loads_on, (1, [("x", 1)])),
        ):
            for table in (WRONG, msi()):
                with self.assertRaises(NotTable):
                    function(table, *arguments)


class MoveTests(unittest.TestCase):
    """[402], [412], [413]"""

    def test_example(self):
        """[416]"""
        self.assertEqual(split_play(split_msi(), 2, EXAMPLE), (4, 0, ((0, 5), (0, -1)), ((2, 5),)))
        self.assertEqual([state[3] for state in split_states_on(split_msi(), 2, EXAMPLE)],
                         [(), ((4, -1),), ((1, 0),), (), (), ((2, 5),)])

    def refused(self, table, state, move):
        self.assertIsNone(split_behind(table, state, move), move)

    def test_the_home_alone(self):
        """k is -1, and i -1 or the place of a message"""
        state = (0, 7, ((0, -1), (1, 3)), ())
        self.assertEqual(split_behind(CARELESS, state, ("row", 0, -1, -1)), (0, 7, ((0, -1), (1, 3)), ((0, 7),)))
        for k in (0, 1, 2, -2, "-1"):
            self.refused(CARELESS, state, ("row", 0, k, -1))
        for i in (0, 1, -2, "-1"):
            self.refused(CARELESS, state, ("row", 0, -1, i))
        state = (1, 4, ((1, 5), (2, 6)), ((1, 8), (1, 9)))
        self.assertEqual(split_behind(BOTH, state, ("row", 4, -1, 1)), (0, 9, ((0, 5), (0, 6)), ((0, 9), (1, 4), (1, 8))))
        for k in (0, 1, -2):
            self.refused(BOTH, state, ("row", 4, k, 1))

    def test_home_and_own(self):
        state = (1, 4, ((1, 5), (2, 6), (0, 7)), ((0, 8), (1, 9)))
        self.assertEqual(split_behind(BOTH, state, ("row", 1, 0, 0)),
                         (0, 5, ((2, 8), (2, 6), (1, 7)), ((0, 4), (1, 9), (2, 8))))
        for move in (("row", 1, 1, 0), ("row", 1, 2, 0), ("row", 1, -1, 0), ("row", 1, 3, 0), ("row", 1, 0, -1),
                     ("row", 1, 0, 1), ("row", 1, 0, 2), ("row", 1, 0, -2), ("row", 1, -3, 0), ("row", 1, "0", 0),
                     ("row", 1, 0, "0"), ("row", 7, 0, 0), ("row", -1, 0, 0), ("row", -6, 0, 0), ("row", "1", 0, 0)):
            self.refused(BOTH, state, move)
        self.refused(BOTH, (0,) + state[1:], ("row", 1, 0, 0))
        self.refused(BOTH, state, ("row", 0, 2, -1))

    def test_own_alone(self):
        """The home is not looked at, and stays as it is"""
        for home in (0, 1):
            state = (home, 4, ((1, 5), (2, 6)), ((0, 8),))
            self.assertEqual(split_behind(BOTH, state, ("row", 3, 0, 0)), (home, 4, ((1, 5), (1, 6)), ((0, 5), (1, 8))))
            self.assertEqual(split_behind(BOTH, state, ("row", 6, 1, 0)), (home, 4, ((1, 5), (0, 8)), ()))
            self.refused(BOTH, state, ("row", 6, -1, 0))
            self.refused(BOTH, state, ("row", 6, 0, 0))

    def test_both_sent(self):
        state = (0, 4, ((0, 5),), ())
        self.assertEqual(split_behind(BOTH, state, ("row", 0, 0, -1)), (1, 5, ((1, 4),), ((0, 4), (0, 5))))
        state = (0, 4, ((2, 5),), ((2, 9),))
        self.assertEqual(split_behind(BOTH, state, ("row", 2, 0, 0)), (1, 9, ((1, 4),), ((2, 9), (2, 9))))

    def test_equal_messages(self):
        """Each of them can be taken, and both ways lead to one state"""
        state = (1, 0, ((1, 3),), ((0, 2), (0, 2), (0, 5), (1, 2)))
        self.assertEqual([move for move in split_moves_in(BOTH, state) if move[1] == 3], [("row", 3, 0, i) for i in (0, 1, 2)])
        one, other = (split_behind(BOTH, state, ("row", 3, 0, i)) for i in (0, 1))
        self.assertEqual(one, other)
        self.assertEqual(one, (1, 0, ((1, 3),), ((0, 2), (0, 3), (0, 5), (1, 2), (1, 2))))
        self.refused(BOTH, state, ("row", 3, 0, 3))

    def test_taken_and_sent_of_one_kind(self):
        """The copy that is taken is gone, the one that is sent is the own one"""
        self.assertEqual(split_behind(BOTH, (1, 0, ((1, 3),), ((0, 2),)), ("row", 3, 0, 0)), (1, 0, ((1, 3),), ((0, 3), (1, 2))))

    def test_loads_and_stores(self):
        state = split_play(split_msi(), 2, EXAMPLE[:3])
        self.assertEqual(split_behind(split_msi(), state, ("load", 0)), state)
        for value in (1, 99, BIG):
            self.assertEqual(split_behind(split_msi(), state, ("store", 0, value)), (1, 0, ((2, value), (0, -1)), ()))
        for move in (("store", 0, 0), ("store", 0, -1), ("store", 0, -BIG), ("store", 0, "1"), ("store", 1, 1), ("store", 2, 1),
                     ("store", -2, 1), ("store", -1, 1), ("load", 1), ("load", 2), ("load", -1), ("load", -2), ("load", "0"),
                     ("load",), ("load", 0, 0), ("store", 0), ("store", 0, 1, 1), (), ("row",), ("row", 6, 0), ("x", 0),
                     ("x", 0, 1), ("x", 6, 0, -1), ("x", 0, 1, -1), ("row", 7, 0, -1, -1)):
            self.refused(split_msi(), state, move)
        state = split_play(split_msi(), 1, [("row", 0, 0, -1), ("row", 1, -1, 0), ("row", 2, 0, 0)])
        self.assertEqual(split_behind(split_msi(), state, ("load", 0)), state)
        self.refused(split_msi(), state, ("store", 0, 1))

    def test_no_caches(self):
        self.assertEqual(split_play(CARELESS, 0, [("row", 0, -1, -1)] * 3), (0, 0, (), ((0, 0),) * 3))
        self.assertEqual(split_moves_in(CARELESS, split_begin(0)), [("row", 0, -1, -1)])
        self.assertEqual(split_moves_in(split_msi(), split_begin(0)), [])
        self.assertEqual(split_moves_in(split_msi(), (0, 0, (), ((3, 1), (4, 1)))), [("row", 1, -1, 0), ("row", 4, -1, 1)])
        self.assertEqual(split_moves_in(NO_SPLIT_ROWS, split_begin(3)), [])

    def test_order_of_moves(self):
        """Rows by number, then by cache, then by index; then the loads"""
        state = (1, 0, ((1, 0), (2, 0), (1, 0)), ((0, 1), (0, 2), (1, 0)))
        self.assertEqual(split_moves_in(BOTH, state), [
            ("row", 1, 0, 0), ("row", 1, 0, 1), ("row", 1, 2, 0), ("row", 1, 2, 1), ("row", 3, 0, 0), ("row", 3, 0, 1),
            ("row", 3, 2, 0), ("row", 3, 2, 1), ("row", 4, -1, 2), ("row", 6, 1, 0), ("row", 6, 1, 1),
            ("load", 0), ("load", 1), ("load", 2),
        ])

    def test_one_by_one(self):
        """The same as a play whose caches and messages are changed one by one"""
        source = chance(1)
        for table in [split_msi(), ASKING, SELF, CARELESS, BOTH] * 8 + [random_split(source) for _ in range(150)]:
            n = source.randint(0, 4)
            moves = random_moves(source, table, n, 25, (1, 2, 3, BIG))
            play = Play(table, n)
            state = split_begin(n)
            for move in moves:
                self.assertEqual(split_moves_in(table, state), play.moves())
                play.step(move)
                state = split_behind(table, state, move)
                self.assertEqual(state, play.state())
                self.assertTrue(is_split_state(table, state))
            for _ in range(30):
                move = ("row", source.randint(-1, 9), source.randint(-2, n), source.randint(-2, len(state[3])))
                other = played(table, n, moves)
                self.assertEqual(split_behind(table, state, move), other.state() if other.step(move) else None)


class PlayTests(unittest.TestCase):
    def test_states(self):
        source = chance(2)
        for _ in range(100):
            table, n = random_split(source), source.randint(0, 3)
            moves = random_moves(source, table, n, 20)
            given = list(moves)
            states = split_states_on(table, n, moves)
            self.assertEqual(states, [played(table, n, moves[:at]).state() for at in range(len(moves) + 1)])
            self.assertEqual(split_play(table, n, moves), states[-1])
            self.assertEqual(moves, given)

    def test_loads(self):
        moves = EXAMPLE[:4] + [("load", 0), ("store", 0, 9), ("load", 0)]
        self.assertEqual(split_loads_on(split_msi(), 2, moves), [(4, 0, 5), (6, 0, 9)])
        self.assertEqual(split_loads_on(split_msi(), 2, EXAMPLE), [])
        self.assertEqual(split_loads_on(SELF, 1, [("row", 0, 0, -1), ("row", 1, 0, 0), ("load", 0)]), [(2, 0, -1)])
        source = chance(3)
        for _ in range(60):
            table = random_split(source, 4, 2, 3, 15)
            moves = random_moves(source, table, 3, 20)
            expected = [(at, move[1], played(table, 3, moves[:at]).caches[move[1]]["copy"])
                        for at, move in enumerate(moves) if move[0] == "load"]
            self.assertEqual(split_loads_on(table, 3, moves), expected)

    def test_errors(self):
        for function in (split_states_on, split_play, split_loads_on):
            for n in (-1, -BIG):
                with self.assertRaises(BadNumber):
                    function(split_msi(), n, [("x", 1)])
            for at, wrong in ((0, ("row", 4, -1, 0)), (3, ("row", 5, 0, 0)), (5, ("store", 0, 1)), (5, ("load", 2))):
                with self.assertRaises(BadMove) as caught:
                    function(split_msi(), 2, EXAMPLE[:at] + [wrong, ("x", 1)])
                self.assertEqual(caught.exception.at, at)

    def test_new_lists(self):
        moves = EXAMPLE[:4] + [("load", 0)]
        for call in (
            lambda: split_states_on(split_msi(), 2, moves), lambda: split_loads_on(split_msi(), 2, moves),
            lambda: split_moves_in(split_msi(), split_begin(2)),
        ):
            first = call()
            expected = list(first)
            first.clear()
            self.assertEqual(call(), expected)


class LikeTests(unittest.TestCase):
    """[404], [414], [415]"""

    def test_values(self):
        """Other values, ascending like the old ones, as the index of a message depends on them: all told likewise"""
        source = chance(4)
        for _ in range(80):
            table = random_split(source, 4, 2, 3, 12)
            moves = random_moves(source, table, 3, 20, (1, 2, 3))
            new = {-1: -1, 0: 0, 1: 7, 2: 70, 3: BIG}
            others = [("store", move[1], new[move[2]]) if move[0] == "store" else move for move in moves]
            home, value, caches, net = split_play(table, 3, moves)
            self.assertEqual(split_play(table, 3, others), (
                home, new[value], tuple((s, new[c]) for s, c in caches), tuple((k, new[c]) for k, c in net)))
            self.assertEqual(split_loads_on(table, 3, others), [(at, k, new[v]) for at, k, v in split_loads_on(table, 3, moves)])

    def test_more_caches(self):
        source = chance(5)
        for _ in range(80):
            table = random_split(source, 4, 2, 3, 12)
            moves = random_moves(source, table, 2, 20)
            home, value, caches, net = split_play(table, 2, moves)
            more = split_play(table, 5, moves)
            self.assertEqual((more[0], more[1], more[2][:2], more[3]), (home, value, caches, net))
            self.assertEqual({copy for _, copy in more[2][2:]}, {-1})

    def test_nobody_takes_it(self):
        table = CARELESS[:3] + (CARELESS[3][:1],)
        for n in range(5):
            self.assertEqual(split_play(table, 1, [("row", 0, -1, -1)] * n)[3], ((0, 0),) * n)

    def test_without_partners(self):
        """[415]: the plays of a table and of its split table, with an empty net"""
        source = chance(6)
        for _ in range(120):
            table = random_table(source)
            table = (table[0], table[1], tuple(row for row in table[2] if row[2] == -1))
            split, n = split_of(table), source.randint(0, 3)
            moves, state = [], line_begin(n)
            for _ in range(20):
                self.assertEqual(split_moves_in(split, state + ((),)), moves_in(table, state))
                told = moves_in(table, state) + [("store", k, source.randint(1, 3)) for k in range(n)]
                for move in source.sample(told, len(told)):
                    behind = line_behind(table, state, move)
                    expected = None if behind is None else behind + ((),)
                    self.assertEqual(split_behind(split, state + ((),), move), expected)
                if told:
                    move = source.choice(told)
                    if line_behind(table, state, move) is not None:
                        moves.append(move)
                        state = line_behind(table, state, move)
            self.assertEqual(split_states_on(split, n, moves), [one + ((),) for one in states_on(table, n, moves)])
            self.assertEqual(split_play(split, n, moves), play(table, n, moves) + ((),))


if __name__ == "__main__":
    unittest.main()
