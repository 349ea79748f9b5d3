"""What of ../shared/LANGUAGE.md can be read off each file by counting, and where the interface's names stand."""

import ast
import os
import re
import unittest

TOP = os.path.dirname(os.path.dirname(os.path.abspath(__file__)))
PACKAGE = os.path.join(TOP, "pastlay")

FUNCTIONS = {
    "shapes": {
        "is_place": "thing", "is_stretch": "thing", "is_colour": "thing", "is_stroke": "thing", "joined": "some",
        "both": "some others", "apart": "some others",
    },
    "writing": {"read": "text"},
    "seeing": {
        "giver": "book place * moment", "picture": "book * moment", "colours": "book * moment",
        "stack": "book place * moment", "hidden": "book * moment",
    },
    "looks": {"are_looks": "book thing", "shown": "book look"},
    "wishes": {
        "is_wish": "thing", "firm": "wish", "wrong": "book wish", "walls": "book wish slot * looks",
        "gaps": "book wish slot * looks",
    },
    "layings": {
        "is_laying": "book thing", "are_prices": "thing", "laid": "book laying", "numbers": "book laying",
        "led_over": "book look laying", "is_right": "book wish laying * looks", "broken": "book wish laying * looks",
        "price_of": "book laying prices", "behind": "book first second", "cut_back": "book laying",
    },
    "least": {
        "runs": "book wish * looks", "table": "book wish prices * looks", "least": "book wish prices * looks",
    },
    "single": {"fewest": "book wish", "bars": "book wish", "are_bars": "book wish thing"},
    "papers": {"paper": "book wish prices * looks", "is_paper": "book wish prices thing bar * looks"},
}
METHODS = {
    "Book": {
        "__init__": "self strokes", "put": "self slot stroke", "take": "self number", "strokes": "self", "copy": "self",
        "__len__": "self", "__eq__": "self other", "__repr__": "self", "__str__": "self",
    },
    "House": {
        "__init__": "self", "build": "self name", "paint": "self name stroke", "look": "self name low high",
        "wish": "self name wish prices", "strip": "self name number", "drop": "self name", "lay": "self name hand wish",
        "withdraw": "self name hand", "grant": "self name prices", "mark": "self name", "back": "self name",
        "batch": "self deeds", "walls_now": "self", "book_now": "self name", "looks_now": "self name",
        "open_now": "self name", "spent_now": "self name", "log_now": "self", "copy": "self",
    },
    "Desk": {"__init__": "self", "say": "self row"},
}
CLASSES = {"books": ["Book"], "house": ["House"], "desk": ["Desk"]}
NOT_CALLED_SO = ["register", "mro", "elements", "open", "input", "law", "version_info", "with_traceback", "add_note"]


def package_files():
    return [name for name in sorted(os.listdir(PACKAGE)) if name != "__pycache__"]


def text_of(name):
    with open(os.path.join(PACKAGE, name), encoding="utf-8", newline="") as file:
        return file.read()


def tree_of(name):
    return ast.parse(text_of(name))


def names_of(function):
    """The names of the arguments; those behind the * are handed in by their names alone."""
    names = [argument.arg for argument in function.args.args]
    if function.args.kwonlyargs:
        names += ["*"] + [argument.arg for argument in function.args.kwonlyargs]
    return " ".join(names)


class Language(unittest.TestCase):
    def test_files(self):
        for name in package_files():
            self.assertRegex(name, r"\A[a-z_][a-z0-9_]*\.py\Z")
        self.assertIn("__init__.py", package_files())

    def test_signs_and_sizes(self):
        for name in package_files():
            text = text_of(name)
            self.assertIsNone(re.search(r"[^ -~\n]", text), name)
            self.assertLessEqual(len(text.splitlines()), 399, name)
            for line in text.splitlines():
                self.assertLessEqual(len(line), 120, name)
            for node in ast.walk(tree_of(name)):
                if isinstance(node, ast.FunctionDef):
                    self.assertLessEqual(node.end_lineno - node.lineno + 1, 40, (name, node.name))

    def test_imports(self):
        for name in package_files():
            for node in ast.walk(tree_of(name)):
                self.assertNotIsInstance(node, ast.Import, name)
                if isinstance(node, ast.ImportFrom):
                    self.assertEqual(node.level, 0, name)
                    self.assertTrue(node.module.startswith("pastlay.") or node.module in (
                        "heapq", "math", "itertools", "collections"), (name, node.module))

    def test_names(self):
        for name in package_files():
            for node in ast.walk(tree_of(name)):
                for field in ("id", "name", "arg", "attr"):
                    self.assertNotIn(getattr(node, field, None), NOT_CALLED_SO, name)

    def test_functions_of_the_interface(self):
        for module, functions in FUNCTIONS.items():
            found = {node.name: names_of(node) for node in tree_of(module + ".py").body
                     if isinstance(node, ast.FunctionDef)}
            for function, arguments in functions.items():
                self.assertEqual(found.get(function), arguments, (module, function))

    def test_classes_of_the_interface(self):
        for module, classes in CLASSES.items():
            found = {node.name: node for node in tree_of(module + ".py").body if isinstance(node, ast.ClassDef)}
            for name in classes:
                methods = {node.name: names_of(node) for node in found[name].body if isinstance(node, ast.FunctionDef)}
                for method, arguments in METHODS[name].items():
                    self.assertEqual(methods.get(method), arguments, (name, method))


if __name__ == "__main__":
    unittest.main()
