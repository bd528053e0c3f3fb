"""The form of the package: its files, its imports, its sizes, and where the interface is defined."""

import ast
import unittest
import warnings
from pathlib import Path

PACKAGE = Path(__file__).resolve().parent.parent / "takeagain"

INTERFACE = {
    "errors.py": {"TakeError": None, "BadFactor": None, "BadHeap": None, "BadLimit": None,
                  "BadNumber": None, "BadSum": None, "BadTaking": None},
    "steps.py": {"step_by": ["factor", "number"], "sum_of": ["factor", "heap"], "whole": ["factor", "parts"]},
}


def sources():
    return {path.name: path.read_text(encoding="utf-8") for path in sorted(PACKAGE.glob("*.py"))}


class Form(unittest.TestCase):
    def test_the_package_holds_nothing_but_python_files(self):
        for path in PACKAGE.iterdir():
            if path.name != "__pycache__":
                with self.subTest(path=path.name):
                    self.assertTrue(path.is_file() and path.suffix == ".py")
        self.assertIn("__init__.py", sources())

    def test_the_interface_is_defined_in_its_files(self):
        for name, interface in INTERFACE.items():
            defined = {}
            for node in ast.parse(sources()[name]).body:
                if isinstance(node, ast.FunctionDef):
                    defined[node.name] = [argument.arg for argument in node.args.args]
                if isinstance(node, ast.ClassDef):
                    defined[node.name] = None
            for word, arguments in interface.items():
                with self.subTest(file=name, word=word):
                    self.assertIn(word, defined)
                    self.assertEqual(defined[word], arguments)

    def test_imports_are_from_the_package(self):
        for name, text in sources().items():
            for node in ast.walk(ast.parse(text)):
                with self.subTest(file=name):
                    self.assertNotIsInstance(node, ast.Import)
                    if isinstance(node, ast.ImportFrom):
                        self.assertEqual(node.level, 0)
                        self.assertTrue(node.module.startswith("takeagain."))

    def test_sizes(self):
        for name, text in sources().items():
            with self.subTest(file=name):
                lines = text.splitlines()
                self.assertLessEqual(len(lines), 399)
                self.assertLessEqual(max(len(line) for line in lines), 120)
            for node in ast.walk(ast.parse(text)):
                if isinstance(node, ast.FunctionDef):
                    with self.subTest(file=name, function=node.name):
                        self.assertLessEqual(node.end_lineno - node.lineno + 1, 40)

    def test_characters_and_warnings(self):
        for name, text in sources().items():
            with self.subTest(file=name):
                self.assertTrue(all(sign == "\n" or " " <= sign <= "~" for sign in text))
                with warnings.catch_warnings():
                    warnings.simplefilter("error")
                    compile(text, name, "exec")


if __name__ == "__main__":
    unittest.main()
