"""Checks the rules of LANGUAGE.md that a look at single files and lines can check."""

import ast
import pathlib
import re
import unittest

PACKAGE = pathlib.Path(__file__).resolve().parent.parent / "twoways"
LIBRARY = ("heapq", "math", "itertools", "collections", "__future__")
BUILTINS = (
    "len range enumerate zip min max sum abs sorted reversed int str bool list tuple dict set isinstance "
    "ord repr any all divmod super map iter next ValueError KeyError"
).split()


def files():
    return sorted(path for path in PACKAGE.rglob("*") if path.is_file() and "__pycache__" not in path.parts)


def nodes(path, *kinds):
    tree = ast.parse(path.read_text(encoding="utf-8"))
    return [node for node in ast.walk(tree) if isinstance(node, kinds)]


class LanguageTest(unittest.TestCase):
    def test_plain_files(self):
        for path in files():
            self.assertRegex(path.name, r"^[a-z0-9_]+\.py$")
            self.assertEqual(re.sub(r"[ -~\n]", "", path.read_text(encoding="utf-8")), "", path)

    def test_sizes(self):
        for path in files():
            lines = path.read_text(encoding="utf-8").split("\n")
            self.assertLess(len(lines), 400, path)
            self.assertLessEqual(max(map(len, lines)), 120, path)
            for function in nodes(path, ast.FunctionDef):
                self.assertLessEqual(function.end_lineno - function.lineno + 1, 40, function.name)

    def test_imports(self):
        for path in files():
            self.assertEqual(nodes(path, ast.Import), [], path)
            for line in nodes(path, ast.ImportFrom):
                self.assertEqual(line.level, 0, path)
                self.assertTrue(line.module.startswith("twoways.") or line.module in LIBRARY, path)
                if line.module.startswith("twoways."):
                    self.assert_defined_in(line)

    def assert_defined_in(self, line):
        home = PACKAGE.parent.joinpath(*line.module.split(".")).with_suffix(".py")
        defined = {node.name for node in nodes(home, ast.FunctionDef, ast.ClassDef)}
        defined |= {name.id for node in nodes(home, ast.Assign) for name in node.targets if isinstance(name, ast.Name)}
        for name in line.names:
            self.assertIn(name.name, defined, home)

    def test_builtins(self):
        import builtins

        for path in files():
            for name in nodes(path, ast.Name):
                if hasattr(builtins, name.id):
                    self.assertIn(name.id, BUILTINS, path)

    def test_statements_that_are_not_used(self):
        barred = (ast.Global, ast.AsyncFunctionDef, ast.Await, ast.AsyncFor, ast.AsyncWith, ast.Div)
        for path in files():
            self.assertEqual(nodes(path, *barred), [], path)

    def test_no_signs_that_strings_may_not_have(self):
        for path in files():
            for node in nodes(path, ast.Constant):
                if isinstance(node.value, str):
                    self.assertNotIn("%", node.value, path)
                self.assertNotIsInstance(node.value, (float, complex), path)


if __name__ == "__main__":
    unittest.main()
