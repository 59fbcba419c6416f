"""The interface: names, arguments and files; and what the package folder may hold."""

import ast
import importlib
import inspect
import unittest
from pathlib import Path

from tests.test_errors import NAMES

PACKAGE = Path(__file__).resolve().parent.parent / "coverpapers"

FUNCTIONS = {
    "families": {
        "is_rising_family": ["word", "family"],
        "is_falling_family": ["word", "family"],
        "cover": ["family"],
        "judge": ["word", "rising", "falling"],
    },
    "moves": {
        "allowed_moves": ["word"],
        "make_move": ["word", "move"],
    },
    "tables": {
        "is_table": ["rows"],
        "is_record": ["table"],
        "shape_of": ["table"],
        "reading_word": ["table"],
        "corners": ["table"],
        "conjugate": ["shape"],
    },
    "rows": {
        "insert_into_row": ["row", "letter"],
        "insert_by_rows": ["table", "letter"],
        "take_by_rows": ["table", "cell"],
    },
    "columns": {
        "insert_by_columns": ["table", "letter"],
        "take_by_columns": ["table", "cell"],
    },
    "pairs": {
        "table_of": ["word"],
        "table_by_columns": ["word"],
        "pair_of": ["word"],
        "word_of": ["table", "record"],
    },
    "paths": {
        "walk": ["word", "path"],
        "path_to_table": ["word"],
        "path_between": ["first", "second"],
    },
    "carrying": {
        "carry_rising": ["word", "move", "family"],
        "carry_falling": ["word", "move", "family"],
    },
    "covers": {
        "rises": ["word"],
        "falls": ["word"],
        "greatest_rising": ["word", "count"],
        "greatest_falling": ["word", "count"],
        "rising_paper": ["word", "count"],
        "falling_paper": ["word", "count"],
        "longest_rising": ["word"],
        "longest_falling": ["word"],
        "part_rising": ["word"],
        "part_falling": ["word"],
    },
    "profiles": {
        "profile": ["word"],
    },
    "parting": {
        "note": ["first", "second"],
        "judge_note": ["first", "second", "note"],
    },
}

CLASSES = {
    "errors": ["CoverError", *NAMES],
}


def defined_names(module, kind):
    tree = ast.parse((PACKAGE / f"{module}.py").read_text(encoding="ascii"))
    return [node.name for node in tree.body if isinstance(node, kind)]


class InterfaceTest(unittest.TestCase):
    def test_each_function_is_defined_in_its_file(self):
        for module, functions in FUNCTIONS.items():
            for name in functions:
                self.assertIn(name, defined_names(module, ast.FunctionDef))

    def test_each_class_is_defined_in_its_file(self):
        for module, classes in CLASSES.items():
            for name in classes:
                self.assertIn(name, defined_names(module, ast.ClassDef))

    def test_the_arguments_of_each_function(self):
        for module, functions in FUNCTIONS.items():
            for name, arguments in functions.items():
                function = getattr(importlib.import_module(f"coverpapers.{module}"), name)
                parameters = inspect.signature(function).parameters.values()
                self.assertEqual([parameter.name for parameter in parameters], arguments, name)
                for parameter in parameters:
                    self.assertEqual(parameter.kind, parameter.POSITIONAL_OR_KEYWORD)
                    self.assertEqual(parameter.default, parameter.empty)


class PackageFolderTest(unittest.TestCase):
    def test_it_holds_nothing_but_python_files(self):
        # Python itself writes __pycache__; it is not committed.
        names = [path.name for path in PACKAGE.iterdir() if path.name != "__pycache__"]
        self.assertIn("__init__.py", names)
        for name in names:
            self.assertRegex(name, r"\A[a-z0-9_]+\.py\Z")

    def test_sizes_and_characters(self):
        for path in PACKAGE.glob("*.py"):
            text = path.read_text(encoding="ascii")
            self.assertRegex(text, r"\A[ -~\n]*\Z", path.name)
            lines = text.splitlines()
            self.assertLessEqual(len(lines), 399, path.name)
            self.assertLessEqual(max(len(line) for line in lines), 120, path.name)
            for node in ast.walk(ast.parse(text)):
                if isinstance(node, ast.FunctionDef):
                    self.assertLessEqual(node.end_lineno - node.lineno + 1, 40, node.name)


if __name__ == "__main__":
    unittest.main()
