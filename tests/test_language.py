"""Those rules for the files of the package that can be asked of the files themselves."""

import ast
import builtins
import pathlib
import unittest
import warnings

PACKAGE = pathlib.Path(__file__).resolve().parent.parent / "coheir"

BUILTINS = set(
    "len range enumerate zip min max sum abs sorted reversed int str bool list tuple dict set isinstance ord repr any"
    " all divmod type super Exception ValueError TypeError KeyError IndexError LookupError".split()
)
METHODS = set(
    "append clear copy count endswith extend find get index insert isalnum isalpha isdigit items join keys ljust lower"
    " lstrip partition pop remove replace reverse rjust rstrip setdefault split startswith strip update upper values"
    " zfill bit_length".split()
)
BARRED_NAMES = set(
    "mro elements open input law register compile dir eval exec exit getattr globals hasattr help id locals os quit"
    " setattr vars sys iter next map hash chr print frozenset bytes".split()
)
BARRED_WORDS = set(
    "typing enum Enum Flag Generic Protocol ABC namedtuple NamedTuple dataclass overload contextmanager".split()
)
STATEMENTS = (
    ast.Assign, ast.AugAssign, ast.If, ast.While, ast.For, ast.Return, ast.Break, ast.Continue, ast.Pass, ast.Raise,
    ast.Expr, ast.FunctionDef, ast.ClassDef, ast.ImportFrom, ast.Try, ast.With,
)
LIBRARY = {"itertools": ["combinations"]}


def files():
    return sorted(PACKAGE.iterdir())


def trees():
    return {path.stem: ast.parse(path.read_text()) for path in files() if path.suffix == ".py"}


def bound_in(node):
    """Return the names that a function binds, its parameters with them."""
    names = [told.arg for told in ast.walk(node) if isinstance(told, ast.arg)]
    return names + [told.id for told in ast.walk(node) if isinstance(told, ast.Name) and isinstance(told.ctx, ast.Store)]


def functions(tree):
    return [node for node in ast.walk(tree) if isinstance(node, ast.FunctionDef)]


class FileTests(unittest.TestCase):
    def test_one_folder_of_files(self):
        """L1, L14"""
        for path in files():
            if path.name != "__pycache__":
                self.assertTrue(path.is_file() and path.suffix == ".py", path)
                self.assertRegex(path.stem, r"\A(__init__|[a-z][a-z0-9_]*)\Z")
                self.assertNotIn(path.stem, dir(builtins))
        self.assertLessEqual(len(trees()), 100)

    def test_sizes_and_characters(self):
        """L10, L12, L14, L27"""
        for path in files():
            if path.suffix == ".py":
                text = path.read_text(encoding="utf-8")
                lines = text.split("\n")
                self.assertLessEqual(len(lines), 399)
                self.assertTrue(all(len(line) <= 120 for line in lines), path)
                self.assertTrue(all(" " <= sign <= "~" or sign == "\n" for sign in text), path)
                self.assertNotIn("_wall", text)
                self.assertFalse(any(line != line.rstrip() for line in lines), path)

    def test_sizes_of_functions(self):
        """L10"""
        for name, tree in trees().items():
            for node in functions(tree):
                self.assertLessEqual(node.end_lineno - node.lineno + 1, 40, (name, node.name))
                self.assertIsNotNone(ast.get_docstring(node) or node.name == "__init__", (name, node.name))


class RuleTests(unittest.TestCase):
    def test_imports(self):
        """L2, L16: from the file that defines the name, and without a round"""
        told = trees()
        needs = {}
        for name, tree in told.items():
            needs[name] = []
            for node in tree.body:
                if isinstance(node, ast.ImportFrom) and node.module in LIBRARY:
                    self.assertTrue(all(alias.name in LIBRARY[node.module] for alias in node.names), name)
                elif isinstance(node, ast.ImportFrom):
                    self.assertTrue(node.level == 0 and node.module.startswith("coheir."), name)
                    needs[name].append(node.module.removeprefix("coheir."))
                    defined = []
                    for part in told[needs[name][-1]].body:
                        if isinstance(part, (ast.FunctionDef, ast.ClassDef)):
                            defined.append(part.name)
                        if isinstance(part, ast.Assign):
                            defined.append(part.targets[0].id)
                    for alias in node.names:
                        self.assertIn(alias.name, defined, name)
                        self.assertIsNone(alias.asname)
        while needs:
            free = [name for name, others in needs.items() if not any(other in needs for other in others)]
            self.assertTrue(free, f"a round of imports: {sorted(needs)}")
            for name in free:
                del needs[name]

    def test_module_level(self):
        """L3, L15"""
        for name, tree in trees().items():
            seen = []
            for at, node in enumerate(tree.body):
                if at == 0:
                    self.assertIsNotNone(ast.get_docstring(tree), name)
                elif isinstance(node, ast.ImportFrom):
                    seen.extend(alias.name for alias in node.names)
                elif isinstance(node, ast.Assign):
                    self.assertEqual(len(node.targets), 1)
                    ast.literal_eval(node.value)
                    seen.append(node.targets[0].id)
                else:
                    self.assertIsInstance(node, (ast.FunctionDef, ast.ClassDef), name)
                    seen.append(node.name)
            self.assertEqual(len(seen), len(set(seen)), name)

    def test_statements(self):
        """L4, L5, L6, L7, L21"""
        for name, tree in trees().items():
            for node in ast.walk(tree):
                if isinstance(node, ast.stmt):
                    self.assertIsInstance(node, STATEMENTS, (name, ast.dump(node)[:80]))
                if isinstance(node, (ast.FunctionDef, ast.ClassDef)):
                    self.assertEqual(node.decorator_list, [], name)
                if isinstance(node, ast.FunctionDef):
                    self.assertIsNone(node.returns, name)
                self.assertNotIsInstance(node, (ast.Div, ast.Pow, ast.Mod, ast.NamedExpr, ast.Yield, ast.Set), name)
                if isinstance(node, ast.Constant):
                    self.assertNotIsInstance(node.value, (float, complex, bytes), name)

    def test_names(self):
        """L8, L12, L15, L17"""
        for name, tree in trees().items():
            fixed = []
            for node in tree.body:
                if isinstance(node, ast.ImportFrom):
                    fixed.extend(alias.name for alias in node.names)
                if isinstance(node, ast.ClassDef):
                    fixed.append(node.name)
            for node in functions(tree):
                for bound in bound_in(node) + [node.name]:
                    self.assertNotIn(bound, BARRED_NAMES, name)
                    self.assertNotIn(bound, dir(builtins), name)
                self.assertFalse(set(fixed) & set(bound_in(node)), (name, node.name))
            for node in ast.walk(tree):
                if isinstance(node, ast.Name) and node.id in dir(builtins):
                    self.assertIn(node.id, BUILTINS, name)
                if isinstance(node, ast.Constant) and isinstance(node.value, str):
                    self.assertNotIn("%", node.value, name)

    def test_words(self):
        """L17: words that no file has, but in comments and docstrings"""
        for name, tree in trees().items():
            for node in ast.walk(tree):
                for word in [getattr(node, part, None) for part in ("id", "attr", "arg", "name")]:
                    self.assertNotIn(word, BARRED_WORDS | {"mro", "open", "input", "law", "elements"}, name)

    def test_methods(self):
        """L25, L26: methods are those of builtin values that are allowed, or own ones"""
        own = {node.name for tree in trees().values() for node in functions(tree)}
        for name, tree in trees().items():
            for node in ast.walk(tree):
                if isinstance(node, ast.Call) and isinstance(node.func, ast.Attribute):
                    self.assertIn(node.func.attr, METHODS | own | {"__init__"}, name)

    def test_sets(self):
        """L24: a set stands in `sorted` or `len` alone here"""
        for name, tree in trees().items():
            inside = []
            for node in ast.walk(tree):
                if isinstance(node, ast.Call) and isinstance(node.func, ast.Name) and node.func.id in ("sorted", "len"):
                    inside.extend(node.args)
            for node in ast.walk(tree):
                made = isinstance(node, ast.Call) and isinstance(node.func, ast.Name) and node.func.id == "set"
                if made or isinstance(node, ast.SetComp):
                    self.assertIn(node, inside, name)

    def test_no_warnings(self):
        """L27"""
        with warnings.catch_warnings():
            warnings.simplefilter("error")
            for path in files():
                if path.suffix == ".py":
                    compile(path.read_text(), path.name, "exec")

    def test_raises(self):
        """L19: an error is created where it is raised"""
        for name, tree in trees().items():
            for node in ast.walk(tree):
                if isinstance(node, ast.Raise):
                    self.assertIsInstance(node.exc, ast.Call, name)
                    self.assertIsInstance(node.exc.func, ast.Name, name)


class InterfaceTests(unittest.TestCase):
    """Each name of the interface is defined in its file, with the parameters that the document tells."""

    INTERFACE = {
        "tables": "is_table(table) check_table(table) rows_at(table,home,own) without_rows(table,numbers)"
                  " with_row(table,row) renamed(table,states,homes)",
        "samples": "msi() mesi() mosi() forgetful(table,number)",
        "tabletexts": "text_of_table(table) read_table(text)",
        "lineplay": "line_begin(n) is_state(table,state) check_state(table,state) line_behind(table,state,move)"
                    " moves_in(table,state) states_on(table,n,moves) play(table,n,moves) loads_on(table,n,moves)",
        "ghosts": "is_stand(table,stand) is_kind(table,kind) is_heap(table,heap) start_heap(table,n) is_bad(table,heap)"
                  " heap_moves(table,heap) heap_run(table,heap,moves)",
        "ghostlead": "marks_on(table,n,moves) counted(table,state,marks) led(table,n,moves) lifted(table,n,moves)",
        "backs": "met_stands(table) met_kinds(table) is_below(one,other) least_of(heaps)"
                 " steps_back_by(table,stand,move,heap) steps_back(table,heap)",
        "bars": "bad_heaps(table) bar(table) bar_within(table,most) is_bar_closed(table,heaps) comes(table,heap)"
                " run_from(table,heap)",
        "coherence": "is_coherent(table) fewest_caches(table) bad_run(table) passes(table) passing_run(table)",
        "papers": "verdict(table)",
        "tablecheck": "line_led_to(table,n,moves) are_closed(table,stands,kinds) wall_holds(table,stands,kinds,heaps)"
                      " is_never(table,paper) is_comes(table,paper) shown(table,paper)",
        "programs": "is_program(program) check_program(program) accesses(program,line) lines_of(program)"
                    " with_lines(program,lines) with_cores(program,order) beginning(program,counts)",
        "progtexts": "text_of_program(program) read_program(text)",
        "plain": "begin_plain(program) is_plain_state(program,state) is_observation(program,observation)"
                 " check_observation(program,observation) plain_moves(program,state) plain_moved(program,state,move)"
                 " plain_play(program,moves) plain_states(program) plain_observations(program)"
                 " plain_run(program,observation)",
        "buffered": "begin_buffered(program) is_buffered_state(program,state) buffered_moves(program,state)"
                    " buffered_moved(program,state,move) buffered_play(program,moves) buffered_states(program)"
                    " buffered_observations(program) buffered_run(program,observation)",
        "loose": "begin_loose(program) is_loose_state(program,state) loose_moves(program,state)"
                 " loose_moved(program,state,move) loose_play(program,moves) loose_states(program)"
                 " loose_observations(program) loose_run(program,observation)",
        "relations": "events_of(program,observation) kept_pairs(program,observation,order)"
                     " does_fit(program,observation,paper) ahead_by_lines(program,observation,paper)"
                     " ahead_whole(program,observation,paper,order) round_in(pairs)"
                     " explains(program,observation,paper,order)",
        "explaining": "paper_of(program,moves,order) explanation(program,observation,order)"
                      " run_by(program,observation,paper,order)",
        "races": "do_meet(one,other) has_race(program) first_race(program)",
        "fences": "places_of(program) with_fences(program,places) plain_results(program) buffered_results(program)"
                  " loose_results(program) is_steady(program,*,order) least_fences(program,places,*,order)",
        "machine": "begin_machine(table,program) machine_moves(table,program,state)"
                   " machine_states_on(table,program,moves) machine_play(table,program,moves)"
                   " sight(table,program,moves) shadow(moves)",
        "giving": "gives(table,n) realized(table,program,moves)",
        "making": "made_program(table) sight_proved(program,observation,proof)",
        "ordercheck": "order_led_to(program,moves,order) machine_led_to(table,program,moves)"
                      " paper_explains(program,observation,paper,order)"
                      " both_show(program,observation,moves,paper,order) proof_holds(program,observation,proof)"
                      " case_holds(table,program,moves,proof)",
        "rowsets": "with_rows(table,rows) least_passing(table,rows) greatest_safe(table,rows) mends(table,rows)",
        "lines": "words_of(line) is_name(word) number_in(word)",
        "journal": "attempt(journal,lines,*,keep) resume(text)",
        "splittables": "is_split_table(table) check_split_table(table) split_of(table) split_without(table,numbers)"
                       " split_renamed(table,states,homes,messages)",
        "splitsamples": "split_msi() split_forgetful(table,number)",
        "splittexts": "text_of_split(table) read_split(text)",
        "splitplay": "split_begin(n) is_split_state(table,state) check_split_state(table,state)"
                     " split_behind(table,state,move) split_moves_in(table,state) split_states_on(table,n,moves)"
                     " split_play(table,n,moves) split_loads_on(table,n,moves)",
        "splitghosts": "is_split_heap(table,heap) split_start(table,n) is_split_bad(table,heap)"
                       " split_heap_moves(table,heap) split_heap_run(table,heap,moves)",
        "splitlead": "split_marks_on(table,n,moves) split_counted(table,state,marks) split_led(table,n,moves)"
                     " split_lifted(table,n,moves)",
        "splitbacks": "split_met(table) is_split_below(one,other) least_split(heaps)"
                      " split_backs_by(table,stand,move,heap) split_backs(table,heap)",
        "splitbars": "split_bad_heaps(table) split_bar(table) split_bar_within(table,most)"
                     " is_split_bar_closed(table,heaps) split_comes(table,heap) split_run_from(table,heap)",
        "splitcoherence": "is_split_coherent(table) split_fewest(table) split_bad_run(table) split_passes(table)"
                          " split_passing_run(table)",
        "splitpapers": "split_verdict(table)",
        "splitmachine": "begin_split_machine(table,program) split_machine_moves(table,program,state)"
                        " split_machine_states_on(table,program,moves) split_machine_play(table,program,moves)"
                        " split_sight(table,program,moves)",
        "splitmaking": "split_made_program(table)",
        "splitcheck": "split_led_to(table,n,moves) are_split_closed(table,stands,kinds,notes)"
                      " split_heaps_hold(table,stands,kinds,notes,heaps) is_split_never(table,paper)"
                      " is_split_comes(table,paper) split_shown(table,paper)"
                      " split_machine_led_to(table,program,moves) split_case_holds(table,program,moves,proof)",
    }
    CLASSES = {
        "desk": {"Desk": "__init__(self) answer(self,line) answers(self,lines) names(self) thing(self,name)"},
        "journal": {"Journal": "__init__(self) answer(self,line) record(self) lines(self) keep(self) __enter__(self)"
                               " __exit__(self,kind,value,trace)"},
    }

    def test_interface(self):
        told = trees()
        for name, wanted in self.INTERFACE.items():
            found = []
            for node in told[name].body:
                if isinstance(node, ast.FunctionDef):
                    names = [arg.arg for arg in node.args.args]
                    if node.args.kwonlyargs:
                        names += ["*"] + [arg.arg for arg in node.args.kwonlyargs]
                    found.append(f"{node.name}({','.join(names)})")
            for function in wanted.split():
                self.assertIn(function, found, name)

    def test_classes(self):
        """Each method stands in its class itself"""
        told = trees()
        for name, classes in self.CLASSES.items():
            for title, wanted in classes.items():
                bodies = [node.body for node in told[name].body if isinstance(node, ast.ClassDef) and node.name == title]
                found = [f"{node.name}({','.join(arg.arg for arg in node.args.args)})" for node in bodies[0]
                         if isinstance(node, ast.FunctionDef)]
                for function in wanted.split():
                    self.assertIn(function, found, name)

    def test_checkers_stand_alone(self):
        """[130], [300], [480]: what the modules of the checkers import"""
        told = trees()
        tables = {"errors", "tablecheck", "checkforms", "checkmoves", "checkwalls"}
        others = {"ordercheck", "checkprograms", "checkruns", "checkpapers", "checkproofs"}
        splits = {"splitcheck", "checksplits", "checksplitmoves"}
        for names, allowed in ((tables, tables), (others, tables | others), (splits, tables | others | splits)):
            for name in names:
                for node in told[name].body:
                    if isinstance(node, ast.ImportFrom):
                        self.assertIn(node.module.removeprefix("coheir."), allowed, name)


if __name__ == "__main__":
    unittest.main()
