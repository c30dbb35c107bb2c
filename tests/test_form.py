"""The interface is as written, and the files keep the rules of form that are plain to see."""

import ast
import importlib
import inspect
import pathlib
import unittest

PACKAGE = pathlib.Path(__file__).resolve().parent.parent / "drawerlocks"
INTERFACE = {
    "cabinets": {
        "Cabinet": ("drawers", "bars"),
        "can": ("cabinet", "standing"),
        "barring": ("cabinet", "standing", "drawer"),
        "behind": ("cabinet", "standing", "drawer"),
    },
    "reach": {
        "reached": ("cabinet",),
        "row_to": ("cabinet", "pattern"),
        "row_between": ("cabinet", "standing", "pattern"),
        "right_row": ("cabinet", "pattern", "value"),
        "farthest": ("cabinet",),
    },
}


def package_files():
    return [path for path in sorted(PACKAGE.rglob("*")) if path.is_file() and path.suffix != ".pyc"]


class TestInterface(unittest.TestCase):

    def test_names_and_arguments(self):
        for module, functions in INTERFACE.items():
            for name, arguments in functions.items():
                with self.subTest(module=module, name=name):
                    told = getattr(importlib.import_module(f"drawerlocks.{module}"), name)
                    self.assertEqual(told.__module__, f"drawerlocks.{module}")
                    self.assertEqual(tuple(inspect.signature(told).parameters), arguments)


class TestFiles(unittest.TestCase):

    def test_only_files_of_python(self):
        for path in package_files():
            self.assertEqual(path.suffix, ".py", path)
        self.assertTrue((PACKAGE / "__init__.py").is_file())

    def test_characters_and_sizes(self):
        for path in package_files():
            text = path.read_bytes().decode("utf-8")
            lines = text.split("\n")
            with self.subTest(path=path.name):
                self.assertTrue(all(sign == "\n" or " " <= sign <= "~" for sign in text))
                self.assertLessEqual(len(lines), 400)
                self.assertLessEqual(max(len(line) for line in lines), 120)

    def test_functions_have_at_most_forty_lines(self):
        for path in package_files():
            for node in ast.walk(ast.parse(path.read_text())):
                if isinstance(node, ast.FunctionDef):
                    with self.subTest(path=path.name, name=node.name):
                        self.assertLessEqual(node.end_lineno - node.lineno + 1, 40)

    def test_imports_come_from_the_package_or_the_library_that_is_allowed(self):
        for path in package_files():
            tree = ast.parse(path.read_text())
            for node in ast.walk(tree):
                with self.subTest(path=path.name):
                    self.assertNotIsInstance(node, ast.Import)
                    if isinstance(node, ast.ImportFrom):
                        self.assertIn(node, tree.body)
                        self.assertEqual(node.level, 0)
                        home = node.module.partition(".")[0]
                        self.assertIn(home, ("drawerlocks", "heapq", "math", "itertools", "collections"))


if __name__ == "__main__":
    unittest.main()
