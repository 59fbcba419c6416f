"""The interface: names, arguments and files; and what the package folder may hold."""

import ast
import importlib
import inspect
import unittest
from pathlib import Path

from coverpapers.windows import Window
from tests.test_errors import NAMES

PACKAGE = Path(__file__).resolve().parent.parent / "coverpapers"

FUNCTIONS = {
    "families": {
        "is_rising_family": ["word", "family"],
        "is_falling_family": ["word", "family"],
        "cover": ["family"],
        "judge": ["word", "rising", "falling"],
    },
    "moves": {
        "allowed_moves": ["word"],
        "make_move": ["word", "move"],
    },
    "tables": {
        "is_table": ["rows"],
        "is_record": ["table"],
        "shape_of": ["table"],
        "reading_word": ["table"],
        "corners": ["table"],
        "conjugate": ["shape"],
    },
    "rows": {
        "insert_into_row": ["row", "letter"],
        "insert_by_rows": ["table", "letter"],
        "take_by_rows": ["table", "cell"],
    },
    "columns": {
        "insert_by_columns": ["table", "letter"],
        "take_by_columns": ["table", "cell"],
    },
    "pairs": {
        "table_of": ["word"],
        "table_by_columns": ["word"],
        "pair_of": ["word"],
        "word_of": ["table", "record"],
    },
    "paths": {
        "walk": ["word", "path"],
        "path_to_table": ["word"],
        "path_between": ["first", "second"],
    },
    "carrying": {
        "carry_rising": ["word", "move", "family"],
        "carry_falling": ["word", "move", "family"],
    },
    "covers": {
        "rises": ["word"],
        "falls": ["word"],
        "greatest_rising": ["word", "count"],
        "greatest_falling": ["word", "count"],
        "rising_paper": ["word", "count"],
        "falling_paper": ["word", "count"],
        "longest_rising": ["word"],
        "longest_falling": ["word"],
        "part_rising": ["word"],
        "part_falling": ["word"],
    },
    "profiles": {
        "profile": ["word"],
    },
    "parting": {
        "note": ["first", "second"],
        "judge_note": ["first", "second", "note"],
    },
    "turning": {
        "turn": ["word", "*least", "*greatest"],
        "turn_family": ["word", "family"],
    },
    "operators": {
        "lowered": ["word", "number"],
        "raised": ["word", "number"],
        "exchanged": ["word", "number"],
    },
    "notation": {
        "format_word": ["word"],
        "format_family": ["family"],
        "format_paper": ["paper"],
        "parse_word": ["text"],
        "parse_family": ["text"],
        "parse_paper": ["text"],
    },
}

CLASSES = {
    "errors": ["CoverError", *NAMES],
    "windows": ["Window"],
}

METHODS = {
    "__init__": ["self", "letters=()"],
    "push_right": ["self", "letter"],
    "push_left": ["self", "letter"],
    "pop_right": ["self"],
    "pop_left": ["self"],
    "word": ["self"],
    "table": ["self"],
    "record": ["self"],
    "rises": ["self"],
    "__len__": ["self"],
    "__iter__": ["self"],
    "greatest": ["self", "count", "*falling=False"],
    "paper": ["self", "count", "*falling=False"],
}


def definitions(module, kind):
    tree = ast.parse((PACKAGE / f"{module}.py").read_text(encoding="ascii"))
    return [node for node in tree.body if isinstance(node, kind)]


def defined_names(module, kind):
    return [node.name for node in definitions(module, kind)]


def written_parameters(function):
    """List the parameters, each with its default value, and with a star if it is passed by keyword alone."""
    written = []
    for parameter in inspect.signature(function).parameters.values():
        star = "*" if parameter.kind == parameter.KEYWORD_ONLY else ""
        default = "" if parameter.default == parameter.empty else f"={parameter.default!r}"
        written.append(f"{star}{parameter.name}{default}")
    return written


class InterfaceTest(unittest.TestCase):
    def test_each_function_is_defined_in_its_file(self):
        for module, functions in FUNCTIONS.items():
            for name in functions:
                self.assertIn(name, defined_names(module, ast.FunctionDef))

    def test_each_class_is_defined_in_its_file(self):
        for module, classes in CLASSES.items():
            for name in classes:
                self.assertIn(name, defined_names(module, ast.ClassDef))

    def test_the_arguments_of_each_function(self):
        for module, functions in FUNCTIONS.items():
            for name, arguments in functions.items():
                function = getattr(importlib.import_module(f"coverpapers.{module}"), name)
                self.assertEqual(written_parameters(function), arguments, name)

    def test_the_methods_of_a_window_are_defined_in_its_class(self):
        window = [node for node in definitions("windows", ast.ClassDef) if node.name == "Window"][0]
        names = [node.name for node in window.body if isinstance(node, ast.FunctionDef)]
        for name, arguments in METHODS.items():
            self.assertIn(name, names)
            self.assertEqual(written_parameters(getattr(Window, name)), arguments, name)


class PackageFolderTest(unittest.TestCase):
    def test_it_holds_nothing_but_python_files(self):
        # Python itself writes __pycache__; it is not committed.
        names = [path.name for path in PACKAGE.iterdir() if path.name != "__pycache__"]
        self.assertIn("__init__.py", names)
        for name in names:
            self.assertRegex(name, r"\A[a-z0-9_]+\.py\Z")

    def test_sizes_and_characters(self):
        for path in PACKAGE.glob("*.py"):
            text = path.read_text(encoding="ascii")
            self.assertRegex(text, r"\A[ -~\n]*\Z", path.name)
            lines = text.splitlines()
            self.assertLessEqual(len(lines), 399, path.name)
            self.assertLessEqual(max(len(line) for line in lines), 120, path.name)
            for node in ast.walk(ast.parse(text)):
                if isinstance(node, ast.FunctionDef):
                    self.assertLessEqual(node.end_lineno - node.lineno + 1, 40, node.name)


if __name__ == "__main__":
    unittest.main()
