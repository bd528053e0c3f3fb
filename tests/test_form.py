"""The form of the package: its files, its imports, its sizes, and where the interface is defined."""

import ast
import unittest
import warnings
from pathlib import Path

PACKAGE = Path(__file__).resolve().parent.parent / "takeagain"

# Each function with its parameters, each class with its methods and theirs.
INTERFACE = {
    "errors.py": {"TakeError": {}, "BadFactor": {}, "BadHeap": {}, "BadLimit": {},
                  "BadNumber": {}, "BadSum": {}, "BadTaking": {}},
    "steps.py": {"step_by": ["factor", "number"], "sum_of": ["factor", "heap"], "whole": ["factor", "parts"]},
    "answers.py": {"Answer": {},
                   "Lost": {"__init__": ["self", "parts"], "shows": ["self", "factor", "heap", "limit"]},
                   "Won": {"__init__": ["self", "taking"], "shows": ["self", "factor", "heap", "limit"]}},
    "taking.py": {"told": ["factor", "heap", "limit"], "behind": ["factor", "heap", "limit", "taking"]},
}


def sources():
    return {path.name: path.read_text(encoding="utf-8") for path in sorted(PACKAGE.glob("*.py"))}


def defined_in(body):
    """What is defined in this body itself: functions with their parameters, classes with their methods."""
    defined = {}
    for node in body:
        if isinstance(node, ast.FunctionDef):
            defined[node.name] = [argument.arg for argument in node.args.args]
        if isinstance(node, ast.ClassDef):
            defined[node.name] = defined_in(node.body)
    return defined


class Form(unittest.TestCase):
    def test_the_package_holds_nothing_but_python_files(self):
        for path in PACKAGE.iterdir():
            if path.name != "__pycache__":
                with self.subTest(path=path.name):
                    self.assertTrue(path.is_file() and path.suffix == ".py")
        self.assertIn("__init__.py", sources())

    def test_the_interface_is_defined_in_its_files(self):
        for name, interface in INTERFACE.items():
            defined = defined_in(ast.parse(sources()[name]).body)
            for word, listed in interface.items():
                with self.subTest(file=name, word=word):
                    self.assertIn(word, defined)
                    self.assertEqual(defined[word], listed)

    def test_imports_are_from_the_package(self):
        for name, text in sources().items():
            for node in ast.walk(ast.parse(text)):
                with self.subTest(file=name):
                    self.assertNotIsInstance(node, ast.Import)
                    if isinstance(node, ast.ImportFrom):
                        self.assertEqual(node.level, 0)
                        self.assertTrue(node.module.startswith("takeagain."))

    def test_no_file_and_nothing_from_outside_is_asked_for(self):
        barred = {"open", "input", "print", "exec", "eval", "compile", "__import__", "globals", "vars", "id", "hash"}
        for name, text in sources().items():
            named = {node.id for node in ast.walk(ast.parse(text)) if isinstance(node, ast.Name)}
            with self.subTest(file=name):
                self.assertEqual(named & barred, set())

    def test_sizes(self):
        for name, text in sources().items():
            with self.subTest(file=name):
                lines = text.splitlines()
                self.assertLessEqual(len(lines), 399)
                self.assertLessEqual(max(len(line) for line in lines), 120)
            for node in ast.walk(ast.parse(text)):
                if isinstance(node, ast.FunctionDef):
                    with self.subTest(file=name, function=node.name):
                        self.assertLessEqual(node.end_lineno - node.lineno + 1, 40)

    def test_characters_and_warnings(self):
        for name, text in sources().items():
            with self.subTest(file=name):
                self.assertTrue(all(sign == "\n" or " " <= sign <= "~" for sign in text))
                with warnings.catch_warnings():
                    warnings.simplefilter("error")
                    compile(text, name, "exec")


if __name__ == "__main__":
    unittest.main()
