"""The interface of the document, and those rules of the language that are quickly looked at."""

import ast
import builtins
import inspect
import pathlib
import unittest

import fillchairs.beats
import fillchairs.best
import fillchairs.errors
import fillchairs.means
import fillchairs.setups
import fillchairs.standings
import fillchairs.waits

PACKAGE = pathlib.Path(fillchairs.errors.__file__).parent
FILES = sorted(PACKAGE.rglob("*.py"))

FUNCTIONS = {
    fillchairs.setups: {
        "is_setup": ["thing"],
        "is_rule": ["thing"],
        "all_comers": ["setup"],
    },
    fillchairs.beats: {
        "chairs_of": ["setup", "rule", "row"],
        "state_after": ["setup", "rule", "row"],
        "lost_by": ["setup", "rule", "row"],
        "parted_by": ["setup", "rule", "row"],
        "all_states": ["setup", "rule"],
        "turned_away": ["setup", "rule"],
    },
    fillchairs.standings: {
        "standing_of": ["setup", "state"],
        "moves_of": ["setup", "rule", "standing"],
        "all_standings": ["setup", "rule"],
        "walk_row": ["setup", "rule", "walk"],
    },
    fillchairs.means: {
        "greatest_mean": ["setup", "rule"],
        "mean_ring": ["setup", "rule"],
        "ring_holds": ["setup", "rule", "above", "below", "ring"],
        "mean_paper": ["setup", "rule"],
        "paper_holds": ["setup", "rule", "above", "below", "paper"],
    },
    fillchairs.best: {
        "best_mean": ["setup"],
        "filler_paper": ["setup"],
        "foe_paper": ["setup"],
        "filler_holds": ["setup", "above", "below", "paper"],
        "foe_holds": ["setup", "above", "below", "paper"],
    },
    fillchairs.waits: {
        "wait_of": ["setup", "rule", "row", "who", "number"],
        "greatest_wait": ["setup", "rule", "who"],
        "wait_row": ["setup", "rule", "who"],
        "wait_paper": ["setup", "rule", "who"],
        "waits_fall": ["setup", "rule", "who", "paper"],
    },
}

ALLOWED_BUILTINS = """
    len range enumerate zip min max sum abs sorted reversed int str bool list tuple dict set isinstance
    ord repr any all divmod iter next super ValueError KeyError ZeroDivisionError TypeError
""".split()


class TestInterface(unittest.TestCase):
    def test_functions_stand_in_their_files(self):
        for module, functions in FUNCTIONS.items():
            for name, parameters in functions.items():
                with self.subTest(name):
                    function = getattr(module, name)
                    self.assertEqual(function.__module__, module.__name__)
                    told = inspect.signature(function).parameters.values()
                    self.assertEqual([parameter.name for parameter in told], parameters)
                    for parameter in told:
                        self.assertIs(parameter.kind, inspect.Parameter.POSITIONAL_OR_KEYWORD)
                        self.assertIs(parameter.default, inspect.Parameter.empty)

    def test_errors_stand_in_their_file(self):
        for name, thing in vars(fillchairs.errors).items():
            if isinstance(thing, type):
                self.assertEqual(thing.__module__, "fillchairs.errors", name)


class TestLanguage(unittest.TestCase):
    def trees(self):
        texts = [path.read_text(encoding="utf-8") for path in FILES]
        return [(text, ast.parse(text)) for text in texts]

    def test_there_are_files_to_look_at(self):
        names = [path.name for path in FILES]
        for module in FUNCTIONS:
            self.assertIn(pathlib.Path(module.__file__).name, names)
        self.assertIn("__init__.py", names)

    def test_only_python_files(self):
        others = [path for path in PACKAGE.rglob("*") if path.is_file() and path.suffix not in (".py", ".pyc")]
        self.assertEqual(others, [])

    def test_characters_and_lengths(self):
        for text, _ in self.trees():
            self.assertTrue(all(sign == "\n" or " " <= sign <= "~" for sign in text))
            self.assertLessEqual(len(text.splitlines()), 399)
            self.assertLessEqual(max(len(line) for line in text.splitlines()), 120)

    def test_functions_are_short(self):
        for _, tree in self.trees():
            for node in ast.walk(tree):
                if isinstance(node, ast.FunctionDef):
                    self.assertLessEqual(node.end_lineno - node.lineno + 1, 40, node.name)

    def test_imports_come_from_the_package(self):
        allowed = ("heapq", "math", "itertools", "collections", "__future__")
        for _, tree in self.trees():
            for node in ast.walk(tree):
                self.assertNotIsInstance(node, ast.Import)
                if isinstance(node, ast.ImportFrom):
                    self.assertEqual(node.level, 0)
                    self.assertTrue(node.module.startswith("fillchairs.") or node.module in allowed)

    def test_no_imports_in_a_ring(self):
        imports = {
            path.stem: {
                node.module.split(".")[1]
                for node in ast.parse(path.read_text(encoding="utf-8")).body
                if isinstance(node, ast.ImportFrom) and node.module.startswith("fillchairs.")
            }
            for path in FILES
        }
        free = set()
        while len(free) < len(imports):
            more = {name for name, needed in imports.items() if needed <= free} - free
            self.assertNotEqual(more, set(), imports)
            free |= more

    def test_builtins(self):
        for _, tree in self.trees():
            for node in ast.walk(tree):
                if isinstance(node, ast.Name) and node.id in vars(builtins):
                    self.assertIsInstance(node.ctx, ast.Load)
                    self.assertIn(node.id, ALLOWED_BUILTINS)
                if isinstance(node, (ast.FunctionDef, ast.ClassDef)):
                    self.assertNotIn(node.name, vars(builtins))
                if isinstance(node, ast.arg):
                    self.assertNotIn(node.arg, vars(builtins))

    def test_no_floats_and_no_percent_signs(self):
        for _, tree in self.trees():
            for node in ast.walk(tree):
                self.assertNotIsInstance(node, ast.Div)
                if isinstance(node, ast.Constant):
                    self.assertNotIsInstance(node.value, (float, complex))
                    if isinstance(node.value, str):
                        self.assertNotIn("%", node.value)


if __name__ == "__main__":
    unittest.main()
