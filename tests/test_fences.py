"""Results, places and least choices of fences, [232] to [235]"""

import inspect
import itertools
import unittest

import orders
from coheir.errors import BadNumber, NotProgram, TooLarge
from coheir.fences import (
    buffered_results, is_steady, least_fences, loose_results, places_of, plain_results, with_fences,
)
from support import chance

RESULTS = {"plain": plain_results, "buffered": buffered_results, "loose": loose_results}
NO_ORDERS = ("", "plain", "Buffered", "loosely")
FULL = ((("store", 0, 1),) * 24, (("store", 0, 1), ("load", 0)))


def results(program, order):
    """[232], by the search of the tests"""
    return sorted({tuple(told for _, told in seen)
                   for seen in orders.whole_ones(program, orders.all_states(program, order))})


def fenced(program, places):
    cores = []
    for c, core in enumerate(program):
        cores.append(tuple(part for i, told in enumerate(core)
                           for part in ((told, ("fence",)) if (c, i) in places else (told,))))
    return tuple(cores)


def is_enough(program, places, order):
    return results(fenced(program, places), order) == results(program, "plain")


def least(program, places, order):
    """[234], by a look at each part of the list and all of its parts"""
    enough = {choice: is_enough(program, [places[at] for at in choice], order)
              for size in range(len(places) + 1) for choice in itertools.combinations(range(len(places)), size)}
    return sorted((choice for choice in enough if enough[choice] and not any(
        enough[part] for size in range(len(choice)) for part in itertools.combinations(choice, size))),
        key=lambda choice: (len(choice), choice))


class PlaceTests(unittest.TestCase):
    def test_places(self):
        """[233]"""
        self.assertEqual(places_of(orders.STORES), [(0, 0), (1, 0)])
        self.assertEqual(places_of(((),)), [])
        self.assertEqual(places_of(((("fence",),), (), (("load", 0), ("fence",), ("load", 0)))), [(2, 0), (2, 1)])
        self.assertEqual(places_of(FULL), [(0, i) for i in range(23)] + [(1, 0)])

    def test_with_fences(self):
        core = (("store", 0, 1), ("fence",), ("load", 1))
        program = (core, orders.STORES[0])
        self.assertEqual(with_fences(program, []), program)
        self.assertEqual(with_fences(program, [(1, 0), (0, 1), (0, 0)]), (
            (core[0], ("fence",), ("fence",), ("fence",), core[2]),
            (orders.STORES[0][0], ("fence",), orders.STORES[0][1])))

    def test_chance(self):
        source = chance(1)
        for _ in range(100):
            program = orders.random_program(source, most_instructions=6)
            places = places_of(program)
            self.assertEqual(places, [(c, i) for c, core in enumerate(program) for i in range(len(core)) if core[i + 1:]])
            chosen = source.sample(places, source.randint(0, len(places)))
            kept = list(chosen)
            self.assertEqual(with_fences(program, chosen), fenced(program, chosen))
            self.assertEqual(chosen, kept)

    def test_errors(self):
        """NotProgram, BadNumber, TooLarge"""
        for places in ([], [(0, 0)], [(9, 9)]):
            with self.assertRaises(NotProgram):
                with_fences((), places)
        with self.assertRaises(NotProgram):
            places_of(((("load", -1),),))
        for wrong in ([(0, 1)], [(1, 1)], [(2, 0)], [(-1, 0)], [(0, -1)], [(0, 0), (1, 0), (0, 0)], [(0, 0), (10 ** 20, 0)],
                      [(False, 0)], [(0, 0, 0)], [(0,)]):
            with self.assertRaises(BadNumber):
                with_fences(orders.STORES, wrong)
            with self.assertRaises(BadNumber):
                with_fences((FULL[0],) + orders.STORES, [(0, 0), (0, 23)] + wrong)
        with self.assertRaises(TooLarge):
            with_fences(FULL, [(0, 0)])
        with self.assertRaises(TooLarge):
            with_fences(FULL, [(1, 0), (0, 22)])
        self.assertEqual(with_fences(FULL, [(1, 0)]), fenced(FULL, [(1, 0)]))
        self.assertEqual(with_fences(FULL, []), FULL)
        almost = (FULL[0][:12],)
        self.assertEqual(len(with_fences(almost, places_of(almost))[0]), 23)
        self.assertEqual(len(with_fences((FULL[0][:23],), [(0, 5)])[0]), 24)
        with self.assertRaises(TooLarge):
            with_fences((FULL[0][:23],), [(0, 5), (0, 6)])

    def test_new_lists(self):
        places_of(orders.STORES).clear()
        self.assertEqual(len(places_of(orders.STORES)), 2)
        for function in RESULTS.values():
            kept = list(function(orders.STORES))
            function(orders.STORES).clear()
            self.assertEqual(function(orders.STORES), kept)


class ResultTests(unittest.TestCase):
    def test_results(self):
        """[232]"""
        self.assertEqual(plain_results(orders.STORES), [((0,), (1,)), ((1,), (0,)), ((1,), (1,))])
        self.assertEqual(buffered_results(orders.STORES)[0], ((0,), (0,)))
        for function in RESULTS.values():
            self.assertEqual(function(((),)), [((),)])
            self.assertEqual(function(((),) * 12), [((),) * 12])
        source = chance(2)
        for _ in range(80):
            program = orders.random_program(source)
            for order, function in RESULTS.items():
                self.assertEqual(function(program), results(program, order))

    def test_errors(self):
        for order, function in RESULTS.items():
            with self.assertRaises(NotProgram):
                function(())
            with self.assertRaises(TooLarge):
                function(orders.with_more_states(order))
            self.assertEqual(len(function(orders.with_most_states())), 1)

    def test_steady(self):
        """[232]; `buffered` if nothing else is told"""
        source = chance(3)
        for _ in range(100):
            program = orders.random_program(source)
            for order in ("buffered", "loose"):
                self.assertIs(is_steady(program, order=order), is_enough(program, [], order))
            self.assertIs(is_steady(program), is_steady(program, order="buffered"))
            self.assertTrue(is_steady(program) or not is_steady(program, order="loose"))

    def test_examples(self):
        """[235]"""
        self.assertIs(is_steady(orders.STORES), False)
        self.assertEqual(least_fences(orders.STORES, [(0, 0), (1, 0)]), [(0, 1)])
        self.assertIs(is_steady(orders.MESSAGE), True)
        self.assertIs(is_steady(orders.MESSAGE, order="buffered"), True)
        self.assertIs(is_steady(orders.MESSAGE, order="loose"), False)
        self.assertEqual(least_fences(orders.MESSAGE, [(0, 0)], order="loose"), [(0,)])
        self.assertEqual(least_fences(orders.MESSAGE, [(1, 0), (0, 0)], order="loose"), [(1,)])

    def test_keywords(self):
        for function in (is_steady, least_fences):
            parameter = inspect.signature(function).parameters["order"]
            self.assertEqual((parameter.kind, parameter.default), (parameter.KEYWORD_ONLY, "buffered"))

    def test_steady_errors(self):
        """NotProgram, BadNumber, TooLarge"""
        large = orders.with_far_more_states()
        for order in NO_ORDERS:
            with self.assertRaises(NotProgram):
                is_steady((), order=order)
            with self.assertRaises(BadNumber):
                is_steady(large, order=order)
        with self.assertRaises(TooLarge):
            is_steady(large)
        for order in ("buffered", "loose"):
            with self.assertRaises(TooLarge):
                is_steady(orders.with_more_states(order), order=order)
            with self.assertRaises(TooLarge):
                is_steady(orders.with_more_states("plain"), order=order)
            self.assertIs(is_steady(orders.with_most_states(), order=order), True)


class LeastTests(unittest.TestCase):
    def test_chance(self):
        """[234]: all least choices, in their order, as a search over all parts finds them"""
        source = chance(4)
        several = 0
        for _ in range(60):
            program = orders.random_program(source, most_cores=2, values=1)
            if source.random() < 0.5:
                program = tuple((store, source.choice((("load", 2), ("load", 3), store)), load)
                                for store, load in orders.STORES)
            places = places_of(program)
            places = source.sample(places, min(len(places), source.randint(2, 4)))
            kept = list(places)
            for order in ("buffered", "loose"):
                found = least_fences(program, places, order=order)
                self.assertEqual(found, least(program, places, order))
                several += len(found) > 1
            self.assertEqual(places, kept)
            self.assertEqual(least_fences(program, places), least_fences(program, places, order="buffered"))
        self.assertGreater(several, 1)

    def test_several_choices(self):
        """Two places of one core, each of which is enough; shorter ones come first"""
        waits = (("store", 0, 1), ("load", 2), ("load", 1)), (("store", 1, 1), ("load", 3), ("load", 0))
        places = [(1, 1), (0, 0), (1, 0), (0, 1)]
        self.assertEqual(least_fences(waits, places), [(0, 1), (0, 3), (1, 2), (2, 3)])
        self.assertEqual(least_fences(waits, places[:1]), [])
        self.assertEqual(least(waits, places, "buffered"), [(0, 1), (0, 3), (1, 2), (2, 3)])
        mixed = (("store", 0, 1), ("store", 1, 1), ("load", 2)), (("store", 2, 1), ("load", 1), ("load", 0))
        for order in ("buffered", "loose"):
            places = places_of(mixed)
            self.assertEqual(least_fences(mixed, places, order=order), least(mixed, places, order))

    def test_no_places(self):
        self.assertEqual(least_fences(orders.STORES, []), [])
        self.assertEqual(least_fences(orders.MESSAGE, []), [()])
        self.assertEqual(least_fences(orders.MESSAGE, [(0, 0), (1, 0)]), [()])
        self.assertEqual(least_fences(((),), []), [()])

    def test_six_and_seven_places(self):
        core = (("store", 0, 1), ("load", 1), ("load", 1), ("load", 1), ("load", 1), ("load", 1), ("load", 1), ("load", 1))
        program = (core, (("store", 1, 1), ("load", 0)))
        places = [(0, i) for i in range(7)]
        self.assertEqual(least_fences(program, places[:5] + [(1, 0)]), [(0, 5)])
        with self.assertRaises(TooLarge):
            least_fences(program, places)
        with self.assertRaises(BadNumber):
            least_fences(program, places + [(0, 0)])
        with self.assertRaises(BadNumber):
            least_fences(program, places, order="plain")

    def test_errors(self):
        """NotProgram, BadNumber for places, for the order, TooLarge"""
        large = orders.with_far_more_states()
        for order in NO_ORDERS:
            with self.assertRaises(NotProgram):
                least_fences((), [(9, 9)], order=order)
            with self.assertRaises(BadNumber):
                least_fences(large, [(0, 0)], order=order)
        for wrong in ([(0, 1)], [(2, 0)], [(-1, 0)], [(0, 0), (0, 0)]):
            with self.assertRaises(BadNumber):
                least_fences(orders.STORES, wrong)
        with self.assertRaises(TooLarge):
            least_fences(FULL, [(0, 0)])
        with self.assertRaises(TooLarge):
            least_fences((FULL[0][:23],), [(0, 3), (0, 4)])
        self.assertEqual(least_fences((FULL[0][:23],), [(0, 3)]), [()])
        with self.assertRaises(TooLarge):
            least_fences(orders.with_more_states("plain"), [])

    def test_too_large_programs_that_are_asked(self):
        """With the fence at one place more than 20000 states come, without it not; and what is not asked is not looked at"""
        for order in ("buffered", "loose"):
            # Fences alone: 20000 states, and with one fence more 24000.
            most = orders.with_most_states()
            self.assertEqual(least_fences(most, [(5, 0)], order=order), [()])
            with self.assertRaises(TooLarge):
                RESULTS[order](with_fences(most, [(5, 0)]))
            # This program is not steady: 34 * 24 * 24 states, and with one fence more 34 * 24 * 25.
            near = orders.STORES + ((orders.FENCE,) * 23,) * 2
            self.assertIs(is_steady(near, order=order), False)
            self.assertEqual(least_fences(near, [(0, 0), (1, 0)], order=order), [(0, 1)])
            for places in ([(2, 0)], [(0, 0), (2, 0), (1, 0)]):
                with self.assertRaises(TooLarge):
                    least_fences(near, places, order=order)

    def test_new_list(self):
        least_fences(orders.STORES, [(0, 0), (1, 0)]).clear()
        self.assertEqual(least_fences(orders.STORES, [(0, 0), (1, 0)]), [(0, 1)])


if __name__ == "__main__":
    unittest.main()
