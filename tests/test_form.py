"""The interface is as written, and the files keep the rules of form that are plain to see."""

import ast
import builtins
import importlib
import inspect
import pathlib
import unittest

PACKAGE = pathlib.Path(__file__).resolve().parent.parent / "drawerlocks"
INTERFACE = {
    "cabinets": {
        "Cabinet": ("drawers", "bars"),
        "can": ("cabinet", "standing"),
        "barring": ("cabinet", "standing", "drawer"),
        "behind": ("cabinet", "standing", "drawer"),
    },
    "reach": {
        "reached": ("cabinet",),
        "row_to": ("cabinet", "pattern"),
        "row_between": ("cabinet", "standing", "pattern"),
        "right_row": ("cabinet", "pattern", "value"),
        "farthest": ("cabinet",),
    },
    "together": {
        "open_together": ("cabinet", "some"),
        "never_together": ("cabinet",),
        "most_open": ("cabinet",),
        "paper": ("cabinet", "some"),
        "right_paper": ("cabinet", "some", "value"),
    },
    "stuck": {
        "dead_end": ("cabinet",),
        "no_return": ("cabinet",),
        "frozen": ("cabinet", "drawer"),
        "never_opened": ("cabinet",),
    },
    "likeness": {
        "alike": ("one", "other"),
        "first_apart": ("one", "other"),
        "needless": ("cabinet",),
        "fewest_bars": ("cabinet",),
    },
    "guards": {
        "guards": ("cabinet", "pairs", "most"),
    },
    "tries": {
        "possible": ("drawers", "tries"),
        "sure": ("drawers", "tries"),
        "simplest": ("drawers", "tries"),
    },
    "counts": {
        "count_rows": ("cabinet", "length"),
        "count_to": ("cabinet", "length", "pattern"),
    },
    "desks": {
        "Desk": ("cabinet",),
    },
    "texts": {
        "write": ("cabinet",),
        "read": ("text",),
    },
    "forces": {
        "force": ("cabinet", "pattern"),
        "plan_depth": ("cabinet", "pattern", "value"),
        "plan": ("cabinet", "pattern"),
    },
    "costs": {
        "cheapest": ("cabinet", "costs", "pattern"),
    },
    "rings": {
        "ring_at": ("cabinet", "standing"),
        "first_ring": ("cabinet",),
        "longest_row": ("cabinet",),
    },
    "seen": {
        "fits_many": ("cabinet", "seen"),
        "first_fit": ("cabinet", "seen"),
        "stands_after": ("cabinet", "seen"),
        "sure_pulls": ("cabinet", "seen"),
    },
    "rests": {
        "count_rest": ("cabinet", "length", "divisor"),
    },
    "names": {
        "renamed": ("cabinet", "order"),
        "keeping": ("cabinet",),
    },
}
CLASSES = {
    ("cabinets", "Cabinet"): {
        "drawers": None, "bars": None, "__eq__": ("self", "other"),
    },
    ("desks", "Desk"): {
        "cabinet": None, "standing": None, "pulls": None, "pull": ("self", "drawer"), "free": ("self",),
        "undo": ("self",), "copy": ("self",), "__len__": ("self",),
    },
}
# The builtins, and the methods of builtin values, that the package uses; LANGUAGE.md allows some more.
BUILTINS = {
    "len", "range", "enumerate", "zip", "min", "max", "sum", "sorted", "int", "str", "bool", "list", "tuple", "dict",
    "set", "isinstance", "any", "all", "reversed", "property", "super", "ValueError",
}
METHODS = {
    "append", "count", "extend", "get", "index", "items", "join", "pop", "setdefault", "split", "update", "values",
    "__init__",
}
NO_NAMES = {"open", "input", "register", "mro", "elements", "law", "id", "hash", "next", "round", "map", "filter"}


def package_files():
    return [path for path in sorted(PACKAGE.rglob("*")) if path.is_file() and path.suffix != ".pyc"]


class TestInterface(unittest.TestCase):

    def test_names_and_arguments(self):
        for module, functions in INTERFACE.items():
            for name, arguments in functions.items():
                with self.subTest(module=module, name=name):
                    told = getattr(importlib.import_module(f"drawerlocks.{module}"), name)
                    self.assertEqual(told.__module__, f"drawerlocks.{module}")
                    self.assertEqual(tuple(inspect.signature(told).parameters), arguments)

    def test_each_method_and_property_stands_in_its_class(self):
        for (module, name), members in CLASSES.items():
            kind = getattr(importlib.import_module(f"drawerlocks.{module}"), name)
            for member, arguments in members.items():
                with self.subTest(name=name, member=member):
                    told = vars(kind)[member]
                    if arguments is None:
                        self.assertIsInstance(told, property)
                    else:
                        self.assertEqual(tuple(inspect.signature(told).parameters), arguments)


def package_trees():
    return [(path.name, ast.parse(path.read_text())) for path in package_files()]


class TestFiles(unittest.TestCase):

    def test_only_files_of_python(self):
        for path in package_files():
            self.assertEqual(path.suffix, ".py", path)
        self.assertTrue((PACKAGE / "__init__.py").is_file())

    def test_characters_and_sizes(self):
        for path in package_files():
            text = path.read_bytes().decode("utf-8")
            lines = text.split("\n")
            with self.subTest(path=path.name):
                self.assertTrue(all(sign == "\n" or " " <= sign <= "~" for sign in text))
                self.assertLessEqual(len(lines), 400)
                self.assertLessEqual(max(len(line) for line in lines), 120)

    def test_functions_have_at_most_forty_lines(self):
        for path in package_files():
            for node in ast.walk(ast.parse(path.read_text())):
                if isinstance(node, ast.FunctionDef):
                    with self.subTest(path=path.name, name=node.name):
                        self.assertLessEqual(node.end_lineno - node.lineno + 1, 40)

    def test_imports_come_from_the_package_or_the_library_that_is_allowed(self):
        for path in package_files():
            tree = ast.parse(path.read_text())
            for node in ast.walk(tree):
                with self.subTest(path=path.name):
                    self.assertNotIsInstance(node, ast.Import)
                    if isinstance(node, ast.ImportFrom):
                        self.assertIn(node, tree.body)
                        self.assertEqual(node.level, 0)
                        home = node.module.partition(".")[0]
                        self.assertIn(home, ("drawerlocks", "heapq", "math", "itertools", "collections"))

    def test_builtins_and_methods_that_are_allowed(self):
        trees = package_trees()
        kinds = (ast.FunctionDef, ast.ClassDef)
        own = {node.name for _, tree in trees for node in ast.walk(tree) if isinstance(node, kinds)}
        for name, tree in trees:
            for node in ast.walk(tree):
                with self.subTest(name=name, line=getattr(node, "lineno", None)):
                    if isinstance(node, ast.Name) and hasattr(builtins, node.id):
                        self.assertIn(node.id, BUILTINS)
                    if isinstance(node, ast.Call) and isinstance(node.func, ast.Attribute):
                        self.assertIn(node.func.attr, METHODS | own)

    def test_names_that_are_not_used(self):
        for name, tree in package_trees():
            for node in ast.walk(tree):
                told = {getattr(node, field, None) for field in ("id", "name", "arg", "attr") if hasattr(node, field)}
                with self.subTest(name=name, line=getattr(node, "lineno", None)):
                    self.assertEqual(told & NO_NAMES, set())

    def test_statements_and_expressions_that_are_not_used(self):
        barred = (
            ast.Global, ast.Nonlocal, ast.AsyncFunctionDef, ast.Await, ast.GeneratorExp, ast.Yield, ast.YieldFrom,
            ast.Lambda, ast.Div, ast.Assert, ast.With, ast.Try, ast.Delete,
        )
        for name, tree in package_trees():
            for node in ast.walk(tree):
                with self.subTest(name=name, line=getattr(node, "lineno", None)):
                    self.assertNotIsInstance(node, barred)
                    if isinstance(node, ast.Constant):
                        self.assertNotIsInstance(node.value, float)
                        self.assertFalse(isinstance(node.value, str) and "%" in node.value)
                    if isinstance(node, ast.FunctionDef):
                        self.assertLessEqual({part.id for part in node.decorator_list}, {"property"})

    def test_no_two_files_import_from_each_other(self):
        homes = {}
        for name, tree in package_trees():
            homes[name] = [node.module for node in tree.body if isinstance(node, ast.ImportFrom)]
        homes = {
            name.removesuffix(".py"): {home.removeprefix("drawerlocks.") for home in told if "drawerlocks." in home}
            for name, told in homes.items()
        }
        while homes:
            last = {name for name, told in homes.items() if not told & set(homes)}
            self.assertTrue(last, homes)
            homes = {name: told for name, told in homes.items() if name not in last}


if __name__ == "__main__":
    unittest.main()
