"""The names and arguments that the document's interface lists, as far as they have landed."""

import ast
import importlib
import inspect
import pathlib
import unittest

PACKAGE = pathlib.Path(__file__).resolve().parent.parent / "twoways"

FUNCTIONS = {
    "tapes": {"tape_of": ["word"], "word_of": ["tape"], "fault_of": ["machine"]},
    "notation": {
        "format_word": ["word"], "parse_word": ["letters", "text"], "format_machine": ["machine"],
        "parse_machine": ["text"],
    },
    "readers": {"fault": ["count", "reader"], "value": ["reader", "word"], "accepts": ["reader", "word"]},
    "values": {
        "values": ["reader", "most"], "numbered": ["reader"], "denied": ["reader"],
        "joint": ["kind", "first", "second"], "least": ["reader"], "same_words": ["first", "second"],
        "shortest": ["reader"],
    },
    "meaning": {
        "is_valid": ["count", "sentence"], "depth_of": ["sentence"], "size_of": ["sentence"],
        "holds": ["sentence", "row", "sets"],
    },
    "marked": {"width": ["sets"], "marked": ["row", "sets"]},
    "sentences": {
        "reader_with": ["count", "sentence", "given"], "sentence_reader": ["count", "sentence"],
        "made_plan": ["written"],
    },
    "walks": {
        "walk_for": ["count", "sets", "reader"], "sentence_for": ["count", "sets", "reader"],
        "sets_for": ["count", "sets", "reader", "word"],
    },
    "runs": {"run": ["machine", "word"], "run_on": ["machine", "row"]},
    "plans": {
        "planned": ["plan", "word"], "told_by": ["written_plan", "word"], "through": ["first", "second", "word"],
    },
    "stretches": {
        "deed": ["machine", "row", "left", "right", "side", "state"], "letter_stretch": ["machine", "letter"],
        "empty_stretch": ["machine"], "joined": ["machine", "first", "second"], "stretch_of": ["machine", "row"],
        "written_by": ["machine", "stretch"],
    },
    "moves": {
        "moved": ["reader", "sets", "numbers", "count"], "some": ["reader", "sets"],
        "is_left": ["count", "first", "second", "sets"],
    },
    "plan_of": {"plan_for": ["machine"]},
    "machine_of": {"tests_of": ["plan"], "machine_for": ["plan"]},
    "order": {"ordered": ["plan"]},
}

METHODS = {
    "__init__": ["self", "machine", "word"], "insert": ["self", "at", "word"], "remove": ["self", "at", "many"],
    "undo": ["self"], "redo": ["self"], "word": ["self"], "written": ["self"], "made": ["self"], "height": ["self"],
    "edits": ["self"], "undone": ["self"],
}


class InterfaceTest(unittest.TestCase):
    def test_functions_and_their_arguments(self):
        for module, functions in FUNCTIONS.items():
            found = importlib.import_module("twoways." + module)
            for name, arguments in functions.items():
                parameters = inspect.signature(getattr(found, name)).parameters.values()
                self.assertEqual([parameter.name for parameter in parameters], arguments, name)
                for parameter in parameters:
                    self.assertIs(parameter.default, parameter.empty)
                    self.assertIs(parameter.kind, parameter.POSITIONAL_OR_KEYWORD)

    def test_defined_where_they_are_listed(self):
        for module, functions in FUNCTIONS.items():
            tree = ast.parse((PACKAGE / (module + ".py")).read_text(encoding="utf-8"))
            defined = [node.name for node in tree.body if isinstance(node, ast.FunctionDef)]
            self.assertLessEqual(set(functions), set(defined), module)

    def test_edited_words(self):
        tree = ast.parse((PACKAGE / "edited.py").read_text(encoding="utf-8"))
        classes = [node for node in tree.body if isinstance(node, ast.ClassDef) and node.name == "EditedWord"]
        self.assertEqual(len(classes), 1)
        found = {node.name: node.args for node in classes[0].body if isinstance(node, ast.FunctionDef)}
        for name, arguments in METHODS.items():
            self.assertEqual([argument.arg for argument in found[name].args], arguments, name)
            self.assertEqual((found[name].defaults, found[name].kwonlyargs), ([], []), name)


if __name__ == "__main__":
    unittest.main()
