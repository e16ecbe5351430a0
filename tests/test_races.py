"""Races, [230], [231], and [235]"""

import itertools
import unittest

import orders
from coheir.errors import NotProgram, TooLarge
from coheir.races import do_meet, first_race, has_race
from support import chance

WORDS = [("load", 0), ("load", 1), ("store", 0, 1), ("store", 1, 1), ("store", 0, 2), ("swap", 0, 1), ("swap", 1, 3),
         ("swap", 0, 2), ("fence",)]


def meet(one, other):
    """[230], word by word"""
    if one[1:2] != other[1:2] or one == ("fence",):
        return False
    words = {one[0], other[0]}
    return bool(words & {"store", "swap"}) and words != {"swap"}


def races_at(program, moves):
    """Return the pairs of cores whose next instructions meet behind a plain run."""
    state = orders.end_of(program, moves, "plain")
    following = {c: program[c][made] for c, (made, _) in enumerate(state[1]) if made < len(program[c])}
    return [(c, d) for c, d in itertools.combinations(sorted(following), 2) if meet(following[c], following[d])]


def shortest(program):
    """Return the length of a shortest plain run to a race, or None."""
    lengths = [sum(made for made, _ in state[1]) for state in orders.all_states(program, "plain")
               if races_at_state(program, state)]
    return min(lengths, default=None)


def races_at_state(program, state):
    following = [program[c][made] for c, (made, _) in enumerate(state[1]) if made < len(program[c])]
    return any(meet(one, other) for one, other in itertools.combinations(following, 2))


class RaceTests(unittest.TestCase):
    def test_meet(self):
        for one, other in itertools.product(WORDS, repeat=2):
            self.assertIs(do_meet(one, other), meet(one, other))

    def test_meet_written_out(self):
        self.assertIs(do_meet(("load", 2), ("store", 2, 1)), True)
        self.assertIs(do_meet(("swap", 2, 1), ("load", 2)), True)
        self.assertIs(do_meet(("swap", 2, 1), ("store", 2, 1)), True)
        self.assertIs(do_meet(("swap", 2, 1), ("swap", 2, 1)), False)
        self.assertIs(do_meet(("load", 2), ("load", 2)), False)
        self.assertIs(do_meet(("store", 1, 1), ("store", 2, 1)), False)
        self.assertIs(do_meet(("fence",), ("fence",)), False)

    def test_example(self):
        """[235]"""
        moves, one, other = first_race(orders.STORES)
        self.assertEqual(len(moves), 1)
        self.assertEqual((one, other), (0, 1))
        self.assertEqual(races_at(orders.STORES, [("make", 1)]), [(0, 1)])
        self.assertEqual(races_at(orders.STORES, []), [])
        self.assertIs(has_race(orders.STORES), True)

    def test_chance(self):
        source = chance(1)
        for _ in range(200):
            program = orders.random_program(source, most_instructions=3, lines=3)
            length = shortest(program)
            found = first_race(program)
            self.assertIs(has_race(program), length is not None)
            self.assertEqual(length is None, not any(
                meet(i, j) for one, other in itertools.combinations(program, 2) for i in one for j in other))
            if length is None:
                self.assertIsNone(found)
            else:
                moves, one, other = found
                self.assertEqual(len(moves), length)
                self.assertIn((one, other), races_at(program, moves))

    def test_without_race(self):
        """[231]: each buffered and each loose observation is plain"""
        source = chance(2)
        count = 0
        for _ in range(300):
            program = orders.random_program(source, most_cores=2, lines=3)
            if not has_race(program):
                count += 1
                plain = {orders.seen(state) for state in orders.all_states(program, "plain")}
                for order in ("buffered", "loose"):
                    self.assertEqual({orders.seen(state) for state in orders.all_states(program, order)}, plain)
        self.assertGreater(count, 30)

    def test_small_ones(self):
        self.assertIsNone(first_race(((),)))
        self.assertIsNone(first_race((tuple(WORDS),)))
        self.assertIs(has_race(((),) * 12), False)
        self.assertEqual(first_race(((),) * 10 + ((("store", 3, 1),), (("load", 3),))), ([], 10, 11))

    def test_errors(self):
        """NotProgram, and TooLarge as `plain_states`, also where a race is seen at once"""
        large = orders.with_far_more_states()
        race = ((("store", 0, 1),), (("store", 0, 2),))
        for function in (has_race, first_race):
            for program in ((), ((("load", 4),),), 12 * (large[0],) + ((),)):
                with self.assertRaises(NotProgram):
                    function(program)
            for program in (large, orders.with_more_states("plain"), ((orders.FENCE,) * 22,) * 5 + race):
                with self.assertRaises(TooLarge):
                    function(program)
        self.assertIs(has_race(orders.with_most_states()), False)
        self.assertEqual(first_race(race), ([], 0, 1))

    def test_new_list(self):
        first_race(orders.STORES)[0].clear()
        self.assertEqual(len(first_race(orders.STORES)[0]), 1)


if __name__ == "__main__":
    unittest.main()
