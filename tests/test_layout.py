"""The interface of the document, and those rules of the language that are quickly looked at."""

import ast
import builtins
import inspect
import pathlib
import unittest

import fillchairs.ahead
import fillchairs.back
import fillchairs.beats
import fillchairs.best
import fillchairs.compared
import fillchairs.desk
import fillchairs.errors
import fillchairs.live
import fillchairs.means
import fillchairs.more
import fillchairs.setups
import fillchairs.standings
import fillchairs.texts
import fillchairs.waits

PACKAGE = pathlib.Path(fillchairs.errors.__file__).parent
FILES = sorted(PACKAGE.rglob("*.py"))

FUNCTIONS = {
    fillchairs.setups: {
        "is_setup": ["thing"],
        "is_rule": ["thing"],
        "all_comers": ["setup"],
    },
    fillchairs.beats: {
        "chairs_of": ["setup", "rule", "row"],
        "state_after": ["setup", "rule", "row"],
        "lost_by": ["setup", "rule", "row"],
        "parted_by": ["setup", "rule", "row"],
        "all_states": ["setup", "rule"],
        "turned_away": ["setup", "rule"],
    },
    fillchairs.standings: {
        "standing_of": ["setup", "state"],
        "moves_of": ["setup", "rule", "standing"],
        "all_standings": ["setup", "rule"],
        "walk_row": ["setup", "rule", "walk"],
    },
    fillchairs.means: {
        "greatest_mean": ["setup", "rule"],
        "mean_ring": ["setup", "rule"],
        "ring_holds": ["setup", "rule", "above", "below", "ring"],
        "mean_paper": ["setup", "rule"],
        "paper_holds": ["setup", "rule", "above", "below", "paper"],
    },
    fillchairs.best: {
        "best_mean": ["setup"],
        "filler_paper": ["setup"],
        "foe_paper": ["setup"],
        "filler_holds": ["setup", "above", "below", "paper"],
        "foe_holds": ["setup", "above", "below", "paper"],
    },
    fillchairs.waits: {
        "wait_of": ["setup", "rule", "row", "who", "number"],
        "greatest_wait": ["setup", "rule", "who"],
        "wait_row": ["setup", "rule", "who"],
        "wait_paper": ["setup", "rule", "who"],
        "waits_fall": ["setup", "rule", "who", "paper"],
    },
    fillchairs.more: {
        "one_more": ["setup", "rule"],
        "one_more_holds": ["setup", "rule", "answer"],
    },
    fillchairs.compared: {
        "rules_alike": ["setup", "rule", "other"],
        "alike_holds": ["setup", "rule", "other", "answer"],
        "greatest_gap": ["setup", "rule", "other"],
        "gap_paper": ["setup", "rule", "other"],
        "gap_holds": ["setup", "rule", "other", "paper"],
    },
    fillchairs.ahead: {
        "least_lost": ["setup", "row", "*parts=0"],
        "best_deeds": ["setup", "row", "*parts=0"],
        "deeds_lose": ["setup", "row", "deeds", "*parts=0"],
        "regret": ["setup", "rule", "row"],
        "ahead_paper": ["setup", "row", "*parts=0"],
        "ahead_holds": ["setup", "row", "most", "paper", "*parts=0"],
        "best_rules": ["setup", "rules"],
        "foes_of": ["setup", "rules"],
        "best_order": ["setup", "rule"],
    },
    fillchairs.back: {
        "states_back": ["setup", "rule", "seen"],
        "row_back": ["setup", "rule", "seen"],
        "next_seen": ["setup", "rule", "seen"],
        "sizes_back": ["setup", "rule", "seen"],
        "rows_counted": ["setup", "rule", "seen"],
        "seen_within": ["setup", "rule", "other"],
        "within_holds": ["setup", "rule", "other", "answer"],
    },
    fillchairs.texts: {
        "show_setup": ["setup"],
        "show_rule": ["rule"],
        "show_row": ["row"],
        "show_chair": ["chair"],
        "read_setup": ["text"],
        "read_rule": ["text"],
        "read_row": ["setup", "text"],
    },
}

METHODS = {
    fillchairs.live.Lift: {
        "__init__": ["setup", "rule=()"],
        "beat": ["groups", "singles"],
        "play": ["row"],
        "change_rule": ["rule"],
        "undo": [],
        "row": [],
        "chairs": [],
        "state": [],
        "rule": [],
        "lost": [],
        "waits": ["who", "number"],
        "try_rows": ["rows", "*rule=None"],
        "copy": [],
        "__len__": [],
        "__iter__": [],
    },
    fillchairs.desk.Desk: {"__init__": [], "say": ["row"]},
}

ALLOWED_BUILTINS = """
    len range enumerate zip min max sum abs sorted reversed int str bool list tuple dict set isinstance
    ord repr any all divmod iter next super property ValueError KeyError ZeroDivisionError TypeError
""".split()


def told_parameters(function):
    """The parameters of a function as FUNCTIONS tells them: those by name only behind a star."""
    told = []
    for parameter in inspect.signature(function).parameters.values():
        star = {inspect.Parameter.POSITIONAL_OR_KEYWORD: "", inspect.Parameter.KEYWORD_ONLY: "*"}[parameter.kind]
        default = "" if parameter.default is inspect.Parameter.empty else f"={parameter.default!r}"
        told.append(star + parameter.name + default)
    return told


class TestInterface(unittest.TestCase):
    def test_functions_stand_in_their_files(self):
        for module, functions in FUNCTIONS.items():
            for name, parameters in functions.items():
                with self.subTest(name):
                    function = getattr(module, name)
                    self.assertEqual(function.__module__, module.__name__)
                    self.assertEqual(told_parameters(function), parameters)

    def test_methods_stand_in_their_classes(self):
        for kind, methods in METHODS.items():
            for name, parameters in methods.items():
                with self.subTest(f"{kind.__name__}.{name}"):
                    self.assertIn(name, vars(kind))
                    self.assertEqual(told_parameters(vars(kind)[name]), ["self", *parameters])
        for name in ("__eq__", "__getitem__", "waiting"):
            self.assertIn(name, vars(fillchairs.live.Lift))
        self.assertIsInstance(vars(fillchairs.live.Lift)["waiting"], property)

    def test_errors_stand_in_their_file(self):
        for name, thing in vars(fillchairs.errors).items():
            if isinstance(thing, type):
                self.assertEqual(thing.__module__, "fillchairs.errors", name)


class TestLanguage(unittest.TestCase):
    def trees(self):
        texts = [path.read_text(encoding="utf-8") for path in FILES]
        return [(text, ast.parse(text)) for text in texts]

    def test_there_are_files_to_look_at(self):
        names = [path.name for path in FILES]
        for module in FUNCTIONS:
            self.assertIn(pathlib.Path(module.__file__).name, names)
        self.assertIn("__init__.py", names)

    def test_only_python_files(self):
        others = [path for path in PACKAGE.rglob("*") if path.is_file() and path.suffix not in (".py", ".pyc")]
        self.assertEqual(others, [])

    def test_characters_and_lengths(self):
        for text, _ in self.trees():
            self.assertTrue(all(sign == "\n" or " " <= sign <= "~" for sign in text))
            self.assertLessEqual(len(text.splitlines()), 399)
            self.assertLessEqual(max(len(line) for line in text.splitlines()), 120)

    def test_functions_are_short(self):
        for _, tree in self.trees():
            for node in ast.walk(tree):
                if isinstance(node, ast.FunctionDef):
                    self.assertLessEqual(node.end_lineno - node.lineno + 1, 40, node.name)

    def test_imports_come_from_the_package(self):
        allowed = ("heapq", "math", "itertools", "collections", "__future__")
        for _, tree in self.trees():
            for node in ast.walk(tree):
                self.assertNotIsInstance(node, ast.Import)
                if isinstance(node, ast.ImportFrom):
                    self.assertEqual(node.level, 0)
                    self.assertTrue(node.module.startswith("fillchairs.") or node.module in allowed)

    def test_no_imports_in_a_ring(self):
        imports = {
            path.stem: {
                node.module.split(".")[1]
                for node in ast.parse(path.read_text(encoding="utf-8")).body
                if isinstance(node, ast.ImportFrom) and node.module.startswith("fillchairs.")
            }
            for path in FILES
        }
        free = set()
        while len(free) < len(imports):
            more = {name for name, needed in imports.items() if needed <= free} - free
            self.assertNotEqual(more, set(), imports)
            free |= more

    def test_names_of_a_file_are_not_used_again_in_it(self):
        for _, tree in self.trees():
            taken = set()
            for node in tree.body:
                if isinstance(node, ast.ImportFrom):
                    taken |= {alias.name for alias in node.names}
                if isinstance(node, ast.ClassDef):
                    taken.add(node.name)
            for node in ast.walk(tree):
                if isinstance(node, ast.arg):
                    self.assertNotIn(node.arg, taken)
                if isinstance(node, ast.Name) and isinstance(node.ctx, ast.Store):
                    self.assertNotIn(node.id, taken)

    def test_no_words_that_are_barred(self):
        barred = "type typing enum keys mro open input law elements register namedtuple Meta metaclass".split()
        for text, tree in self.trees():
            for node in ast.walk(tree):
                names = [getattr(node, part, None) for part in ("id", "attr", "arg", "name")]
                self.assertEqual([name for name in names if name in barred], [])
                self.assertNotIsInstance(node, (ast.Try, ast.Global, ast.AsyncFunctionDef, ast.Yield))

    def test_each_import_is_used(self):
        for _, tree in self.trees():
            used = {node.id for node in ast.walk(tree) if isinstance(node, ast.Name)}
            for node in tree.body:
                if isinstance(node, ast.ImportFrom):
                    for alias in node.names:
                        self.assertIn(alias.name, used)

    def test_builtins(self):
        for _, tree in self.trees():
            for node in ast.walk(tree):
                if isinstance(node, ast.Name) and node.id in vars(builtins):
                    self.assertIsInstance(node.ctx, ast.Load)
                    self.assertIn(node.id, ALLOWED_BUILTINS)
                if isinstance(node, (ast.FunctionDef, ast.ClassDef)):
                    self.assertNotIn(node.name, vars(builtins))
                if isinstance(node, ast.arg):
                    self.assertNotIn(node.arg, vars(builtins))

    def test_no_floats_and_no_percent_signs(self):
        for _, tree in self.trees():
            for node in ast.walk(tree):
                self.assertNotIsInstance(node, ast.Div)
                if isinstance(node, ast.Constant):
                    self.assertNotIsInstance(node.value, (float, complex))
                    if isinstance(node.value, str):
                        self.assertNotIn("%", node.value)


if __name__ == "__main__":
    unittest.main()
