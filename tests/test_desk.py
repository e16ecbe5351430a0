"""The desk, [330] to [336]"""

import unittest

from coheir.backs import met_kinds, met_stands
from coheir.bars import bar
from coheir.buffered import buffered_observations
from coheir.coherence import bad_run, fewest_caches, is_coherent, passes
from coheir.desk import Desk
from coheir.fences import is_steady, with_fences
from coheir.giving import gives
from coheir.lineplay import line_begin, loads_on, moves_in, play
from coheir.making import made_program
from coheir.plain import plain_observations
from coheir.programs import is_program
from coheir.progtexts import text_of_program
from coheir.races import has_race
from coheir.samples import forgetful, mesi, mosi, msi
from coheir.tables import without_rows
from coheir.tabletexts import text_of_table
from machines import STUCK, counting
import orders
from support import TOO_WIDE, chance, nearby_table

STORES = text_of_program(orders.STORES)
MSI = text_of_table(msi())
# For each command a right line on the desk of `full_desk`, the places of its integers and of its names with what they name.
RIGHT = {
    "table": (f"table n {MSI}", [], {}),
    "sample": ("sample n mosi", [], {}),
    "cut": ("cut n a 4", [3], {2: "T"}),
    "forget": ("forget n a 4", [3], {2: "T"}),
    "program": (f"program n {STORES}", [], {}),
    "fence": ("fence n g 0 0", [3, 4], {2: "G"}),
    "made": ("made n b", [], {2: "T"}),
    "play": ("play n a 2", [3], {2: "T"}),
    "drop": ("drop a", [], {1: "L"}),
    "show": ("show a", [], {1: "L"}),
    "row": ("row p 2 0", [2, 3], {1: "P"}),
    "load": ("load q 0", [2], {1: "P"}),
    "store": ("store q 0 9", [2, 3], {1: "P"}),
    "home": ("home p", [], {1: "P"}),
    "caches": ("caches p", [], {1: "P"}),
    "moves": ("moves p", [], {1: "P"}),
    "stands": ("stands a", [], {1: "T"}),
    "kinds": ("kinds a", [], {1: "T"}),
    "bar": ("bar a", [], {1: "T"}),
    "coherent": ("coherent a", [], {1: "T"}),
    "passes": ("passes a", [], {1: "T"}),
    "gives": ("gives a 2", [2], {1: "T"}),
    "fewest": ("fewest a", [], {1: "T"}),
    "badrun": ("badrun b", [], {1: "T"}),
    "plain": ("plain g", [], {1: "G"}),
    "buffered": ("buffered g", [], {1: "G"}),
    "race": ("race g", [], {1: "G"}),
    "steady": ("steady g", [], {1: "G"}),
}
ANSWERS = {
    "table": "3 2 7", "sample": "4 2 13", "cut": "3 2 6", "forget": "3 2 7", "program": "2 2", "fence": "3 2", "made": "2 2",
    "play": "ok", "drop": "ok", "show": MSI, "row": "ok", "load": "7", "store": "ok", "home": "0 0", "caches": "0 -1 / 0 -1",
    "moves": "4", "stands": "4", "kinds": "6", "bar": "20", "coherent": "yes", "passes": "yes", "gives": "yes",
    "fewest": "never", "badrun": "4", "plain": "3", "buffered": "4", "race": "yes", "steady": "no",
}
ENDLESS = ("table", "program", "cut")  # these take any number of words


def full_desk():
    """Return a desk with the tables a and b, the program g, and the plays p and q."""
    desk = Desk()
    desk.answers(["sample a msi", "forget b a 4", f"program g {STORES}", "play p a 2", "play q a 2", "row q 2 0", "store q 0 7"])
    return desk


def things(desk):
    return {name: desk.thing(name) for name in desk.names()}


class CommandTests(unittest.TestCase):
    def test_example(self):
        """[336]"""
        lines = ["sample a msi", "play p a 2", "row p 2 0", "store p 0 7", "row p 1 1 0", "load p 1", "caches p",
                 "coherent a", "forget b a 4", "fewest b"]
        answers = ["3 2 7", "ok", "ok", "ok", "ok", "7", "1 7 / 1 7", "yes", "3 2 7", "2"]
        kept = list(lines)
        self.assertEqual(Desk().answers(lines), answers)
        self.assertEqual(lines, kept)
        desk = Desk()
        self.assertEqual([desk.answer(line) for line in lines], answers)

    def test_right_lines(self):
        for word, (line, _, _) in RIGHT.items():
            self.assertEqual(full_desk().answer(line), ANSWERS[word], line)

    def test_new_desk(self):
        desk = Desk()
        self.assertEqual((desk.names(), desk.thing("a"), desk.answers([])), ([], None, []))

    def test_what_is_put(self):
        """Each command that puts something, and what it puts"""
        desk = full_desk()
        wanted = {"a": msi(), "b": forgetful(msi(), 4), "g": orders.STORES, "p": (msi(), line_begin(2)),
                  "q": (msi(), play(msi(), 2, [("row", 2, 0, -1), ("store", 0, 7)]))}
        self.assertEqual(things(desk), wanted)
        self.assertEqual(desk.names(), ["a", "b", "g", "p", "q"])
        told = [(f"table t {text_of_table(mosi())}", "t", mosi(), "4 2 13"), ("sample s mesi", "s", mesi(), "4 3 13"),
                ("cut a a 6 0 6", "a", without_rows(msi(), [0, 6]), "3 2 5"), ("cut c b", "c", forgetful(msi(), 4), "3 2 7"),
                ("forget f b 2", "f", forgetful(forgetful(msi(), 4), 2), "3 2 7"),
                ("program h core core fence core load 3", "h", ((), (("fence",),), (("load", 3),)), "0 1 1"),
                ("fence g g 1 0", "g", with_fences(orders.STORES, [(1, 0)]), "2 3"),
                ("made m b", "m", made_program(forgetful(msi(), 4))[0], None),
                ("play b b 0", "b", (forgetful(msi(), 4), (0, 0, ())), "ok"),
                ("play abcdefghijkl s 99", "abcdefghijkl", (mesi(), line_begin(99)), "ok")]
        for line, name, thing, answer in told:
            found = desk.answer(line)
            self.assertEqual(found, found if answer is None else answer, line)
            wanted[name] = thing
            self.assertEqual(things(desk), wanted)

    def test_drop(self):
        desk = full_desk()
        self.assertEqual(desk.answers(["drop a", "drop a", "show a", "drop p", "drop g"]),
                         ["ok", "unknown a", "unknown a", "ok", "ok"])
        self.assertEqual(desk.names(), ["b", "q"])
        self.assertIsNone(desk.thing("a"))
        self.assertEqual(desk.answers(["load q 0", "show q"]), ["7", MSI])

    def test_show(self):
        desk = full_desk()
        self.assertEqual(desk.answers(["show a", "show b", "show g", "show p"]),
                         [MSI, text_of_table(forgetful(msi(), 4)), STORES, MSI])
        desk.answer("table t rights 0 homes 1")
        self.assertEqual(desk.answers(["table u " + desk.answer("show t"), "show u"]), ["1 1 0", "rights 0 homes 1"])

    def test_plays(self):
        """[331]: rows with and without a partner, loads and stores, the home, the caches and the moves"""
        desk = Desk()
        desk.answers(["sample a msi", "play p a 3"])
        moves = []
        told = [("row p 2 1", ("row", 2, 1, -1)), ("store p 1 99", ("store", 1, 99)), ("row p 1 0 1", ("row", 1, 0, 1)),
                ("load p 0", ("load", 0)), ("row p 4 0", ("row", 4, 0, -1)), ("store p 0 1", ("store", 0, 1)),
                ("load p 0", ("load", 0)), ("row p 6 0", ("row", 6, 0, -1)), ("row p 0 2", ("row", 0, 2, -1)),
                ("load p 2", ("load", 2))]
        for line, move in told:
            moves.append(move)
            state = play(msi(), 3, moves)
            answer = str(loads_on(msi(), 3, moves)[-1][2]) if move[0] == "load" else "ok"
            self.assertEqual(desk.answer(line), answer)
            self.assertEqual(desk.thing("p"), (msi(), state))
            self.assertEqual(desk.answer("home p"), f"{state[0]} {state[1]}")
            self.assertEqual(desk.answer("caches p"), " / ".join(f"{at} {copy}" for at, copy in state[2]))
            self.assertEqual(desk.answer("moves p"), str(len(moves_in(msi(), state))))
        for line in ("row p 2 0 0", "row p 2 0 1", "row p 1 0", "row p 1 0 2", "row p 7 0", "row p 2 3", "load p 0", "load p 3",
                     "store p 2 5", "store p 0 5", "row p 99 99 99"):
            self.assertEqual(desk.answer(line), "refused", line)
            self.assertEqual(desk.thing("p"), (msi(), play(msi(), 3, moves)))

    def test_store_of_nothing(self):
        desk = full_desk()
        self.assertEqual(desk.answers(["store q 0 0", "load q 0", "store q 0 1", "load q 0"]), ["refused", "7", "ok", "1"])

    def test_no_caches(self):
        desk = full_desk()
        self.assertEqual(desk.answers(["play o a 0", "caches o", "home o", "moves o", "load o 0"]),
                         ["ok", "empty", "0 0", "0", "refused"])

    def test_copies_of_nothing(self):
        desk = Desk()
        self.assertEqual(desk.answers(["table t rights 0 1 homes 1 : 0 0 - 0 1 - 0 1 keep keep", "play p t 1", "row p 0 0",
                                       "load p 0", "caches p"]), ["2 1 1", "ok", "ok", "-1", "1 -1"])

    def test_a_play_keeps_its_table(self):
        """What is put under the name of its table later does not matter"""
        desk = full_desk()
        desk.answers(["sample a mosi", "drop b"])
        self.assertEqual(desk.answers(["row q 1 1 0", "load q 1", "show q"]), ["ok", "7", MSI])

    def test_operations(self):
        """[334]"""
        source = chance(1)
        desk = Desk()
        for _ in range(40):
            table = nearby_table(source, source.choice((msi(), mesi(), mosi())))
            desk.answer(f"table t {text_of_table(table)}")
            self.assertEqual(desk.thing("t"), table)
            fewest = fewest_caches(table)
            wanted = [len(met_stands(table)), len(met_kinds(table)), len(bar(table)),
                      "yes" if is_coherent(table) else "no", "yes" if passes(table) else "no",
                      "never" if fewest is None else fewest, "refused" if fewest is None else len(bad_run(table))]
            words = ("stands", "kinds", "bar", "coherent", "passes", "fewest", "badrun")
            self.assertEqual(desk.answers([f"{word} t" for word in words]), [str(answer) for answer in wanted])
            for n in range(6):
                answer = "refused" if n in (0, 5) else "yes" if gives(table, n) else "no"
                self.assertEqual(desk.answer(f"gives t {n}"), answer)
        for _ in range(60):
            program = orders.random_program(source)
            desk.answer(f"program g {text_of_program(program)}")
            self.assertEqual(desk.thing("g"), program)
            wanted = [str(len(plain_observations(program))), str(len(buffered_observations(program))),
                      "yes" if has_race(program) else "no", "yes" if is_steady(program) else "no"]
            self.assertEqual(desk.answers(["plain g", "buffered g", "race g", "steady g"]), wanted)

    def test_made(self):
        """[331], [335]: a coherent table leaves the name as it is"""
        desk = full_desk()
        self.assertEqual(desk.answers(["made g a", "show g", "made new a", "show new"]),
                         ["coherent", STORES, "coherent", "unknown new"])
        self.assertEqual(desk.answer("made g b"), "2 2")
        self.assertTrue(is_program(desk.thing("g")))
        self.assertEqual(desk.answers(["buffered g", "made b b", "coherent b"])[1:], ["2 2", "refused"])
        for table in (STUCK, counting(13)):
            desk.answer(f"table t {text_of_table(table)}")
            self.assertEqual(desk.answers(["made g t", "coherent t"]), ["refused", "no"])
        desk.answer(f"table t {text_of_table(counting(12))}")
        self.assertEqual(desk.answer("made g t"), "1 0 0 0 0 0 0 0 0 0 0 0")

    def test_alike(self):
        """[335]"""
        source = chance(2)
        desk = Desk()
        for _ in range(60):
            desk.answer(f"table t {text_of_table(nearby_table(source, source.choice((msi(), mesi(), mosi()))))}")
            coherent, fewest, made, run = desk.answers(["coherent t", "fewest t", "made m t", "badrun t"])
            self.assertEqual({coherent == "yes", fewest == "never", made == "coherent", run == "refused"}, {coherent == "yes"})
        desk.answer(f"table t {text_of_table(TOO_WIDE)}")
        self.assertEqual(desk.answers(["coherent t", "fewest t", "made m t", "badrun t", "bar t"]), ["refused"] * 5)

    def test_loads_of_coherent_tables(self):
        """[335]: the value of the last store, or 0"""
        source = chance(3)
        for name in ("msi", "mesi", "mosi"):
            desk = Desk()
            desk.answers([f"sample a {name}", "play p a 3"])
            last = 0
            loads = 0
            for _ in range(600):
                word = source.choice(("row", "row", "row", "load", "store"))
                if word == "row":
                    partner = source.choice(("", f" {source.randrange(3)}"))
                    desk.answer(f"row p {source.randrange(13)} {source.randrange(3)}{partner}")
                elif word == "load":
                    answer = desk.answer(f"load p {source.randrange(3)}")
                    loads += answer != "refused"
                    self.assertIn(answer, ("refused", str(last)))
                else:
                    value = source.randint(1, 99)
                    if desk.answer(f"store p {source.randrange(3)} {value}") == "ok":
                        last = value
            self.assertGreater(loads, 20)


class WrongLineTests(unittest.TestCase):
    """[333]"""

    def check(self, desk, line, answer):
        kept = things(desk)
        self.assertEqual(desk.answer(line), answer, line)
        self.assertEqual(things(desk), kept)

    def test_malformed_lines(self):
        desk = full_desk()
        for line in ("", " ", " coherent a", "coherent a ", "coherent  a", "coherent\ta", "coherent a\n", "coherent \u00e9", "\u00e9",
                     "a", "Coherent a", "coherents a", "names", "thing a", "help", "sample", "!", "coherent a\x7f"):
            self.check(desk, line, "bad")

    def test_numbers_of_words(self):
        for word, (line, _, _) in RIGHT.items():
            words = line.split()
            desk = full_desk()
            least = 2 if word in ("table", "program") else 3 if word == "cut" else len(words)
            for size in range(1, least):
                self.check(desk, " ".join(words[:size]), "bad")
            if word not in ENDLESS:
                more = " ".join(words + ["0"])
                if word == "row":
                    self.check(desk, more + " 0", "bad")
                else:
                    self.check(desk, more, "bad")

    def test_no_words_behind_the_name(self):
        """U and V stand for none, too"""
        desk = full_desk()
        self.check(desk, "table n", "refused")
        self.check(desk, "program n", "refused")
        self.assertEqual(desk.answer("cut n a"), "3 2 7")

    def test_names(self):
        """Words that are no names, also for new names, ahead of what names nothing"""
        for line, _, names in RIGHT.values():
            words = line.split()
            for at in set(names) | {1}:
                for wrong in ("abcdefghijklm", "A", "a1", "7", "-", "a_b", "|"):
                    self.check(full_desk(), " ".join(words[:at] + [wrong] + words[at + 1:]), "bad")
                if at in names:
                    self.check(full_desk(), " ".join(words[:at] + ["abcdefghijkl"] + words[at + 1:]), "unknown abcdefghijkl")

    def test_integers(self):
        """With a leading zero, above 99, and none at all, ahead of what names nothing"""
        for line, places, names in RIGHT.values():
            words = line.split()
            for at in places:
                for wrong in ("00", "01", "100", "-1", "+1", "a", "1.0", "x"):
                    self.check(full_desk(), " ".join(words[:at] + [wrong] + words[at + 1:]), "bad")
                    for name in names:
                        unknown = words[:name] + ["zz"] + words[name + 1:]
                        self.check(full_desk(), " ".join(unknown[:at] + [wrong] + unknown[at + 1:]), "bad")
        desk = full_desk()
        for line in ("cut n a 0 1 01", "cut n a x", "cut n a 0 100 1", "cut n zz 0 a", "row q 1 1 00"):
            self.check(desk, line, "bad")

    def test_other_things(self):
        """A name of something else, and of nothing"""
        kinds = {"T": ("a", "b"), "G": ("g",), "P": ("p", "q")}
        for line, _, names in RIGHT.values():
            words = line.split()
            for at, letter in names.items():
                for kind, told in kinds.items():
                    if letter not in (kind, "L"):
                        for name in told:
                            self.check(full_desk(), " ".join(words[:at] + [name] + words[at + 1:]), "refused")
                self.check(full_desk(), " ".join(words[:at] + ["nothing"] + words[at + 1:]), "unknown nothing")
                self.check(Desk(), line, f"unknown {words[at]}")

    def test_new_names_need_nothing(self):
        """The first name of such a line need name nothing"""
        desk = full_desk()
        self.assertEqual(desk.answers(["cut new a 0", "forget g g 0", "play n g 2"]), ["3 2 6", "refused", "refused"])
        self.assertEqual(desk.answer("cut g zz 0"), "unknown zz")

    def test_refused_operations(self):
        desk = full_desk()
        for line in ("sample n moesi", "sample n MSI", "sample a a", "cut n a 7", "cut n a 0 99", "forget n a 7", "fence n g 0 1",
                     "fence n g 2 0", "fence n g 0 99", "gives a 0", "gives a 5", "badrun a", "table n rights 1 homes 1",
                     "table a rights 0", "table a x", "program g core load 4", "program g", "program n core stores 0 1",
                     "table n rights 0 homes 7", "load p 0", "load p 2", "store p 0 1", "row p 1 0", "row p 2 2"):
            self.check(desk, line, "refused")
        full = "core " + " | ".join(["fence"] * 24)
        desk.answer(f"program f {full}")
        self.check(desk, "fence n f 0 0", "refused")
        desk.answer("program m " + " ".join(["core " + " | ".join(["fence"] * 4)] * 7))
        for line in ("plain m", "buffered m", "race m", "steady m"):
            self.check(desk, line, "refused")

    def test_new_lists(self):
        desk = full_desk()
        desk.names().clear()
        desk.answers(["home p"]).clear()
        self.assertEqual((len(desk.names()), desk.answers(["home p"])), (5, ["0 0"]))

    def test_desks_apart(self):
        one, other = full_desk(), Desk()
        one.answer("drop a")
        self.assertEqual(other.names(), [])
        self.assertEqual(len(full_desk().names()), 5)


if __name__ == "__main__":
    unittest.main()
