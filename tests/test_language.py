"""The form of the program's files: what can be seen of the language rules at a glance."""

import ast
import unittest
from pathlib import Path

PACKAGE = Path(__file__).resolve().parent.parent / "stepdown"
BUILTINS = {
    "len", "range", "enumerate", "zip", "min", "max", "sum", "abs", "sorted", "reversed", "int", "str", "bool",
    "list", "tuple", "dict", "set", "isinstance", "ord", "repr", "any", "all", "divmod", "super",
    "ValueError", "KeyError", "IndexError",
}
LIBRARY = {"math": ("gcd",)}
NOT_USED = (
    ast.AsyncFunctionDef, ast.Global, ast.Await, ast.Div, ast.ImportFrom, ast.Import,
)


def files():
    return sorted(PACKAGE.glob("*.py"))


class LanguageTest(unittest.TestCase):
    def test_the_folder_holds_only_modules(self):
        names = [path.name for path in PACKAGE.iterdir() if path.name != "__pycache__"]
        self.assertEqual(sorted(names), [path.name for path in files()])

    def test_sizes_and_characters(self):
        for path in files():
            text = path.read_bytes().decode("ascii")
            self.assertNotIn("\t", text)
            self.assertNotIn("\r", text)
            lines = text.split("\n")
            self.assertLessEqual(len(lines), 399, path.name)
            for line in lines:
                self.assertLessEqual(len(line), 120, (path.name, line))

    def test_functions_are_small(self):
        for path in files():
            for node in ast.walk(ast.parse(path.read_text())):
                if isinstance(node, ast.FunctionDef):
                    self.assertLessEqual(node.end_lineno - node.lineno + 1, 40, (path.name, node.name))
                    self.assertEqual(node.decorator_list, [])

    def test_module_level(self):
        for path in files():
            for node in ast.parse(path.read_text()).body:
                if isinstance(node, ast.ImportFrom) and node.module in LIBRARY:
                    for name in node.names:
                        self.assertIn(name.name, LIBRARY[node.module], path.name)
                        self.assertIsNone(name.asname)
                elif isinstance(node, ast.ImportFrom):
                    self.assertTrue(node.module.startswith("stepdown."), (path.name, node.module))
                    self.assertEqual(node.level, 0)
                    self.assertTrue((PACKAGE / (node.module.split(".")[1] + ".py")).exists())
                elif isinstance(node, ast.Expr):
                    self.assertIsInstance(node.value, ast.Constant)
                else:
                    self.assertIsInstance(node, (ast.Assign, ast.FunctionDef, ast.ClassDef), path.name)

    def test_values_at_module_level_are_literals(self):
        for path in files():
            for node in ast.parse(path.read_text()).body:
                if isinstance(node, ast.Assign):
                    self.assertEqual(len(node.targets), 1, (path.name, node.lineno))
                    ast.literal_eval(node.value)

    def test_what_functions_contain(self):
        for path in files():
            tree = ast.parse(path.read_text())
            inner = [node for top in tree.body if isinstance(top, (ast.FunctionDef, ast.ClassDef))
                     for node in ast.walk(top)]
            for node in inner:
                self.assertNotIsInstance(node, NOT_USED, (path.name, getattr(node, "lineno", 0)))
                if isinstance(node, ast.Constant):
                    self.assertNotIsInstance(node.value, (float, complex))

    def test_builtins(self):
        known = set(dir(__import__("builtins")))
        for path in files():
            for node in ast.walk(ast.parse(path.read_text())):
                if isinstance(node, ast.Name) and node.id in known:
                    self.assertIn(node.id, BUILTINS, (path.name, node.lineno))
                    self.assertIsInstance(node.ctx, ast.Load, (path.name, node.lineno))
                if isinstance(node, ast.arg):
                    self.assertNotIn(node.arg, known, (path.name, node.lineno))


if __name__ == "__main__":
    unittest.main()
