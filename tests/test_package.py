"""The form of the package: what the interface lists, and what no file may reach."""

import ast
import os
import unittest
import warnings

PACKAGE = os.path.join(os.path.dirname(os.path.dirname(os.path.abspath(__file__))), "rulesheet")
INTERFACE = {
    "errors.py": {"SheetError": None, "BadSize": None, "OffSheet": None, "TooDeep": None},
    "rules.py": {
        "area": ["one", "two"],
        "deep": ["rule"],
        "needed": ["rule"],
        "shifted": ["rule", "down", "right"],
    },
    "sheet.py": {"Sheet": None},
    "reckon.py": {"told": ["rule", "known"], "reckoned": ["sheet"], "ring": ["sheet"]},
    "touch.py": {"touched": ["sheet", "place"]},
}
SHEET_METHODS = {
    "__init__": ["self", "high", "wide"],
    "places": ["self"],
    "rule": ["self", "place"],
    "put": ["self", "place", "rule"],
    "copied": ["self", "source", "target"],
    "filled": ["self", "source", "one", "two"],
}
LIBRARY = ("heapq", "math", "itertools", "collections")
# Whatever these could reach would be chance, a clock or a file.
BARRED = ("open", "input", "print", "eval", "exec", "compile", "__import__", "id", "hash")


def files():
    return sorted(name for name in os.listdir(PACKAGE) if name != "__pycache__")


def text_of(name):
    with open(os.path.join(PACKAGE, name), encoding="utf-8", newline="") as file:
        return file.read()


class PackageTest(unittest.TestCase):
    def test_only_python_files(self):
        self.assertIn("__init__.py", files())
        for name in files():
            self.assertTrue(name.endswith(".py"), name)
            self.assertEqual(name, name.lower())

    def test_the_interface_is_defined_where_it_is_listed(self):
        for name, listed in INTERFACE.items():
            defined = {}
            for node in ast.parse(text_of(name)).body:
                if isinstance(node, ast.FunctionDef):
                    defined[node.name] = [word.arg for word in node.args.args]
                if isinstance(node, ast.ClassDef):
                    defined[node.name] = None
            for word, arguments in listed.items():
                self.assertIn(word, defined)
                self.assertEqual(defined[word], arguments)

    def test_the_methods_are_defined_in_the_class_itself(self):
        for node in ast.parse(text_of("sheet.py")).body:
            if isinstance(node, ast.ClassDef) and node.name == "Sheet":
                methods = [part for part in node.body if isinstance(part, ast.FunctionDef)]
                defined = {part.name: [word.arg for word in part.args.args] for part in methods}
                for name, arguments in SHEET_METHODS.items():
                    self.assertEqual(defined.get(name), arguments)

    def test_no_clock_chance_or_files(self):
        for name in files():
            for node in ast.walk(ast.parse(text_of(name))):
                self.assertNotIsInstance(node, ast.Import)
                if isinstance(node, ast.ImportFrom):
                    self.assertEqual(node.level, 0)
                    self.assertIn(node.module.split(".")[0], ("rulesheet",) + LIBRARY)
                if isinstance(node, ast.Name):
                    self.assertNotIn(node.id, BARRED)

    def test_sizes_and_characters(self):
        for name in files():
            text = text_of(name)
            self.assertTrue(all(sign == "\n" or " " <= sign <= "~" for sign in text), name)
            self.assertLessEqual(len(text.splitlines()), 399)
            self.assertLessEqual(max(len(line) for line in text.splitlines()), 120)
            for node in ast.walk(ast.parse(text)):
                if isinstance(node, ast.FunctionDef):
                    self.assertLessEqual(node.end_lineno - node.lineno + 1, 40, node.name)

    def test_python_gives_no_warning(self):
        with warnings.catch_warnings():
            warnings.simplefilter("error")
            for name in files():
                compile(text_of(name), name, "exec")


if __name__ == "__main__":
    unittest.main()
