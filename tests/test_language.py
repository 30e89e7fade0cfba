"""Checks the rules of LANGUAGE.md that a look at single files and lines can check."""

import ast
import functools
import pathlib
import re
import unittest

PACKAGE = pathlib.Path(__file__).resolve().parent.parent / "twoways"
LIBRARY = ("heapq", "math", "itertools", "collections", "__future__")
BUILTINS = (
    "len range enumerate zip min max sum abs sorted reversed int str bool list tuple dict set isinstance "
    "ord repr any all divmod super map iter next ValueError KeyError"
).split()

METHODS = (
    "append clear copy count endswith extend find get index insert isalnum isalpha isdigit islower isspace isupper "
    "items join keys ljust lower lstrip partition pop remove replace reverse rfind rjust rpartition rsplit rstrip "
    "setdefault split splitlines startswith strip update upper values zfill bit_length add discard"
).split()
BARRED_NAMES = (
    "register mro elements open input law version_info with_traceback add_note attrgetter breakpoint compile "
    "copyright credits delattr dir eval exec exit gc globals help id importlib license locals methodcaller os quit "
    "type vars sys _cold _tuplegetter _outside _record _written_out _member_names"
).split()
BARRED_WORDS = (
    "type typing enum Enum Flag Generic Protocol ABC ABCMeta namedtuple NamedTuple TypedDict abstractmethod"
).split()
BARRED_BEGINNINGS = "_wall _pe_ _dcw_ _enum_ _cm_ _twin_re_ _lay_ _law_ _stub_ _sre _WallAttr".split()


def files():
    return sorted(path for path in PACKAGE.rglob("*") if path.is_file() and "__pycache__" not in path.parts)


@functools.lru_cache(maxsize=None)
def tree_of(path):
    return ast.parse(path.read_text(encoding="utf-8"))


def nodes(path, *kinds):
    return [node for node in ast.walk(tree_of(path)) if isinstance(node, kinds)]


def joined_sets(node):
    """The sets that are written in a place where they may be joined with one another."""
    if isinstance(node, ast.BinOp) and isinstance(node.op, (ast.Sub, ast.BitAnd, ast.BitOr, ast.BitXor)):
        return joined_sets(node.left) + joined_sets(node.right)
    return [node]


class LanguageTest(unittest.TestCase):
    def test_plain_files(self):
        for path in files():
            self.assertRegex(path.name, r"^[a-z0-9_]+\.py$")
            self.assertEqual(re.sub(r"[ -~\n]", "", path.read_text(encoding="utf-8")), "", path)

    def test_sizes(self):
        for path in files():
            lines = path.read_text(encoding="utf-8").split("\n")
            self.assertLess(len(lines), 400, path)
            self.assertLessEqual(max(map(len, lines)), 120, path)
            for function in nodes(path, ast.FunctionDef):
                self.assertLessEqual(function.end_lineno - function.lineno + 1, 40, function.name)

    def test_imports(self):
        for path in files():
            self.assertEqual(nodes(path, ast.Import), [], path)
            for line in nodes(path, ast.ImportFrom):
                self.assertEqual(line.level, 0, path)
                self.assertTrue(line.module.startswith("twoways.") or line.module in LIBRARY, path)
                if line.module.startswith("twoways."):
                    self.assert_defined_in(line)

    def assert_defined_in(self, line):
        home = PACKAGE.parent.joinpath(*line.module.split(".")).with_suffix(".py")
        defined = {node.name for node in nodes(home, ast.FunctionDef, ast.ClassDef)}
        defined |= {name.id for node in nodes(home, ast.Assign) for name in node.targets if isinstance(name, ast.Name)}
        for name in line.names:
            self.assertIn(name.name, defined, home)

    def test_builtins(self):
        import builtins

        for path in files():
            for name in nodes(path, ast.Name):
                if hasattr(builtins, name.id):
                    self.assertIn(name.id, BUILTINS, path)

    def bound_names(self, path):
        """The names of functions, classes, parameters and variables."""
        found = [node.name for node in nodes(path, ast.FunctionDef, ast.ClassDef)]
        found += [node.arg for node in nodes(path, ast.arg)]
        return found + [node.id for node in nodes(path, ast.Name) if isinstance(node.ctx, ast.Store)]

    def test_names(self):
        import builtins

        for path in files():
            imported = {name.name for line in nodes(path, ast.ImportFrom) for name in line.names}
            classes = {node.name for node in nodes(path, ast.ClassDef)}
            bound = self.bound_names(path)
            self.assertEqual([name for name in bound if name in vars(builtins)], [], path)
            self.assertEqual([name for name in bound if name in imported], [], path)
            self.assertEqual([name for name in bound if name in classes and bound.count(name) > 1], [], path)
            for name in bound:
                self.assertRegex(name, r"^(_|_?[A-Za-z][A-Za-z0-9_]*|__(init|eq|repr|str|len)__)$", path)
                self.assertNotIn(name, BARRED_NAMES, path)
                self.assertFalse(name.startswith(tuple(BARRED_BEGINNINGS)), name)
            self.assertEqual([name for name in classes if name.startswith("_")], [], path)

    def test_attributes(self):
        methods, attributes = set(), set()
        for path in files():
            for kind in nodes(path, ast.ClassDef):
                methods |= {node.name for node in kind.body if isinstance(node, ast.FunctionDef)}
            attributes |= {node.attr for node in nodes(path, ast.Attribute) if isinstance(node.ctx, ast.Store)}
        # The document asks for both: a method of edited words, and what the error of a machine is made with.
        self.assertEqual(sorted(methods & attributes), ["word"])
        # Names of builtin methods that change what they belong to may not be attributes, and are no own methods here.
        self.assertEqual(sorted(attributes & set("items keys values pop update append clear insert sort".split())), [])
        for path in files():
            called = {id(node.func) for node in nodes(path, ast.Call)}
            for node in nodes(path, ast.Attribute):
                self.assertNotIn(node.attr, ("format", "format_map", *BARRED_NAMES[:9]), path)
                if id(node) in called:
                    self.assertIn(node.attr, methods | set(METHODS) | {"__init__"}, path)
                else:
                    self.assertIn(node.attr, attributes, path)

    def test_words_in_strings(self):
        for path in files():
            docstrings = [node.body[0].value for node in nodes(path, ast.Module, ast.FunctionDef, ast.ClassDef)
                          if ast.get_docstring(node) is not None]
            for node in nodes(path, ast.Constant):
                if isinstance(node.value, str) and node not in docstrings:
                    self.assertEqual([word for word in BARRED_WORDS if re.search(rf"\b{word}\b", node.value)], [], path)

    def test_sets_stand_only_where_they_may(self):
        for path in files():
            allowed = set()
            for call in nodes(path, ast.Call):
                if isinstance(call.func, ast.Name) and call.func.id in ("sorted", "len"):
                    allowed |= {id(part) for argument in call.args for part in joined_sets(argument)}
            for line in nodes(path, ast.Assign):
                if isinstance(line.targets[0], ast.Name):
                    allowed.add(id(line.value))
            for test in nodes(path, ast.Compare):
                allowed |= {id(part) for part in test.comparators}
            made = nodes(path, ast.Set, ast.SetComp)
            made += [call for call in nodes(path, ast.Call) if isinstance(call.func, ast.Name) and call.func.id == "set"]
            self.assertEqual([node.lineno for node in made if id(node) not in allowed], [], path)

    def test_ranges_and_the_like_are_not_stored(self):
        views = ("range", "zip", "enumerate", "reversed", "map")
        for path in files():
            for line in nodes(path, ast.Assign):
                call = line.value
                if isinstance(call, ast.Call) and isinstance(call.func, ast.Name) and call.func.id in views:
                    self.assertIsInstance(line.targets[0], ast.Name, (path, line.lineno))
            for line in nodes(path, ast.Return):
                call = line.value
                if isinstance(call, ast.Call) and isinstance(call.func, ast.Name):
                    self.assertNotIn(call.func.id, views, (path, line.lineno))

    def test_beginnings_of_objects_return_nothing(self):
        for path in files():
            for function in nodes(path, ast.FunctionDef):
                if function.name == "__init__":
                    inner = [node for node in ast.walk(function) if isinstance(node, (ast.Return, ast.Lambda))]
                    self.assertEqual(inner, [], path)

    def test_attributes_are_assigned_through_local_names(self):
        for path in files():
            for node in nodes(path, ast.Attribute):
                if isinstance(node.ctx, (ast.Store, ast.Del)):
                    self.assertIsInstance(node.value, ast.Name, (path, node.lineno))

    def test_lambdas(self):
        for path in files():
            lines = [node.lineno for node in nodes(path, ast.Lambda)]
            self.assertEqual(len(lines), len(set(lines)), path)
            for call in nodes(path, ast.Call):
                functions = [tuple(argument.arg for argument in part.args.args) for part in call.args
                             if isinstance(part, ast.Lambda)]
                self.assertEqual(len(functions), len(set(functions)), path)

    def test_stars_stand_before_names(self):
        for path in files():
            for call in nodes(path, ast.Call):
                for part in call.args:
                    if isinstance(part, ast.Starred):
                        self.assertIsInstance(part.value, (ast.Name, ast.Attribute), (path, part.lineno))
            for node in nodes(path, ast.Subscript):
                inner = [part for part in ast.walk(node.slice) if isinstance(part, ast.Starred)]
                self.assertEqual(inner, [], (path, node.lineno))

    def test_exponents_are_literal(self):
        for path in files():
            for node in nodes(path, ast.BinOp):
                if isinstance(node.op, ast.Pow):
                    self.assertIsInstance(node.right, ast.Constant, path)

    def test_no_two_modules_import_from_each_other(self):
        imports = {}
        for path in files():
            modules = [line.module for line in nodes(path, ast.ImportFrom)]
            imports[path.stem] = {module.partition(".")[2] for module in modules if module.startswith("twoways.")}
        while imports:
            free = [name for name, others in imports.items() if not others & set(imports)]
            self.assertNotEqual(free, [], imports)
            for name in free:
                del imports[name]

    def test_statements_that_are_not_used(self):
        barred = (ast.Global, ast.AsyncFunctionDef, ast.Await, ast.AsyncFor, ast.AsyncWith, ast.Div)
        for path in files():
            self.assertEqual(nodes(path, *barred), [], path)

    def test_no_signs_that_strings_may_not_have(self):
        for path in files():
            for node in nodes(path, ast.Constant):
                if isinstance(node.value, str):
                    self.assertNotIn("%", node.value, path)
                self.assertNotIsInstance(node.value, (float, complex), path)


if __name__ == "__main__":
    unittest.main()
