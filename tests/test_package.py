"""Point 3 and the rules of the package that a look at its files can tell."""

import ast
import importlib
import inspect
import pathlib
import re
import unittest

PACKAGE = pathlib.Path(__file__).resolve().parent.parent / "treegarb"

# The interface: the parameters of each function, or None for a class.
INTERFACE = {
    "errors": {
        "StyleError": None,
        "BadDocument": None,
        "BadPlace": None,
        "BadSelector": None,
        "BadSheet": None,
        "TooMany": None,
    },
    "documents": {
        "is_name": ["value"],
        "check_document": ["value"],
        "element_at": ["document", "place"],
        "places": ["document"],
    },
    "selectors": {
        "check_selector": ["value"],
        "check_list": ["value"],
        "weight": ["selector"],
    },
    "matching": {
        "matches": ["document", "place", "selector"],
        "matching": ["document", "selectors"],
    },
    "notation": {
        "selectors_text": ["selectors"],
        "parse_selectors": ["text"],
    },
    "walks": {
        "letters": ["first", "second"],
        "walk_document": ["walk"],
        "start_state": ["first", "second", "letter"],
        "next_state": ["first", "second", "state", "move", "letter"],
        "is_bad": ["first", "second", "state"],
    },
    "deciding": {
        "contained": ["first", "second"],
        "accepts": ["first", "second", "table"],
    },
    "sheets": {
        "check_sheet": ["value"],
    },
    "cascade": {
        "deciding": ["sheet", "document", "place", "name"],
        "style_of": ["sheet", "document", "place"],
        "styles": ["sheet", "document"],
    },
    "engine": {
        "Engine": None,
    },
    "shortening": {
        "single_rules": ["sheet"],
        "dropped": ["sheet"],
        "shorten": ["sheet"],
    },
}

# The methods that the interface lists for classes, and what creates an object.
METHODS = {
    ("engine", "Engine"): {
        "__init__": ["self", "sheet", "document"],
        "document": ["self"],
        "styles": ["self"],
        "apply": ["self", "change"],
    },
}

# What may be imported from outside of the package: none of it tells the time,
# draws random numbers or reads files.
LIBRARY = ("__future__", "heapq", "math", "itertools", "collections")
CALLABLE_BUILTINS = (
    "len", "range", "enumerate", "zip", "min", "max", "sum", "abs", "sorted", "reversed", "int", "str",
    "bool", "list", "tuple", "dict", "set", "isinstance", "ord", "repr", "any", "all", "divmod", "pow",
    "iter", "next", "map",
)
BUILTINS = dir(importlib.import_module("builtins"))


def files():
    return sorted(PACKAGE.rglob("*.py"))


def trees():
    return [(path.name, ast.parse(path.read_text("utf-8"))) for path in files()]


class Interface(unittest.TestCase):
    def test_each_name_is_defined_under_its_heading(self):
        for module, names in INTERFACE.items():
            loaded = importlib.import_module("treegarb." + module)
            for name, parameters in names.items():
                with self.subTest(module=module, name=name):
                    found = getattr(loaded, name)
                    self.assertEqual(found.__module__, "treegarb." + module)
                    self.assertEqual(found.__name__, name)
                    if parameters is None:
                        self.assertTrue(inspect.isclass(found))
                    else:
                        self.assertEqual(list(inspect.signature(found).parameters), parameters)


    def test_each_method_is_defined_in_its_class(self):
        for (module, name), methods in METHODS.items():
            own = vars(getattr(importlib.import_module("treegarb." + module), name))
            for method, parameters in methods.items():
                with self.subTest(name=name, method=method):
                    self.assertIn(method, own)
                    self.assertEqual(list(inspect.signature(own[method]).parameters), parameters)


class NoOutsideWorld(unittest.TestCase):
    def test_imports(self):
        for name, tree in trees():
            for node in ast.walk(tree):
                self.assertNotIsInstance(node, ast.Import, name)
                if isinstance(node, ast.ImportFrom):
                    with self.subTest(file=name, module=node.module):
                        self.assertEqual(node.level, 0)
                        self.assertTrue(node.module in LIBRARY or node.module.startswith("treegarb."))

    def test_builtins(self):
        for name, tree in trees():
            for node in ast.walk(tree):
                if isinstance(node, ast.Name) and node.id in BUILTINS:
                    with self.subTest(file=name, builtin=node.id):
                        known = CALLABLE_BUILTINS + ("ValueError", "KeyError", "NotImplemented", "bytes")
                        self.assertIn(node.id, known)

    def test_no_state_at_module_level(self):
        allowed = (ast.FunctionDef, ast.ClassDef, ast.ImportFrom, ast.Assign, ast.Expr)
        for name, tree in trees():
            for node in tree.body:
                with self.subTest(file=name, line=node.lineno):
                    self.assertIsInstance(node, allowed)
                    if isinstance(node, ast.Expr):
                        self.assertIsInstance(node.value, ast.Constant)
                    if isinstance(node, ast.Assign):
                        ast.literal_eval(node.value)
            for node in ast.walk(tree):
                self.assertNotIsInstance(node, (ast.Global, ast.AsyncFunctionDef, ast.Await), name)


class Form(unittest.TestCase):
    def test_the_folder_contains_nothing_else(self):
        for path in PACKAGE.rglob("*"):
            if "__pycache__" not in path.parts:
                with self.subTest(path=path.name):
                    self.assertTrue(path.is_dir() or path.suffix == ".py")
                    self.assertRegex(path.stem, r"\A[a-z0-9_]+\Z")

    def test_characters_and_lines(self):
        for path in files():
            text = path.read_text("utf-8")
            with self.subTest(file=path.name):
                self.assertRegex(text, r"\A[ -~\n]*\Z")
                self.assertLess(len(text.splitlines()), 400)
                self.assertLessEqual(max(len(line) for line in text.splitlines()), 120)

    def test_functions_are_short(self):
        for name, tree in trees():
            for node in ast.walk(tree):
                if isinstance(node, ast.FunctionDef):
                    with self.subTest(file=name, function=node.name):
                        self.assertLessEqual(node.end_lineno - node.lineno + 1, 40)

    def test_no_floats_and_no_true_division(self):
        for name, tree in trees():
            for node in ast.walk(tree):
                self.assertNotIsInstance(node, ast.Div, name)
                if isinstance(node, ast.Constant):
                    self.assertNotIsInstance(node.value, (float, complex), name)
                    if isinstance(node.value, str):
                        self.assertIsNone(re.search("%", node.value), name)


if __name__ == "__main__":
    unittest.main()
