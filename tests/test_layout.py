"""The interface stands where the document lists it, and the package is plain."""

import ast
import inspect
import pathlib
import unittest

from doorpicks import errors, kinds, picks, sets, texts

PACKAGE = pathlib.Path(picks.__file__).parent
ALLOWED = {"math": {"comb"}}
LISTED = {
    errors: ["PickError", "NoBounds", "NoPick", "NoNumber", "NoChange", "NoText"],
    picks: ["Picks"],
    sets: ["Sets"],
    kinds: ["Kinds"],
    texts: ["written", "read"],
}
METHODS = {
    picks.Picks: {
        "many": ["self"], "number": ["self", "one"], "at": ["self", "number"], "step": ["self", "one", "by"],
        "change": ["self", "pick"], "compared": ["self", "one", "other"], "__init__": ["self", "things", "size"],
    },
    sets.Sets: {
        "many": ["self"], "number": ["self", "one"], "at": ["self", "number"], "step": ["self", "one", "by"],
        "change": ["self", "some"], "__init__": ["self", "things"],
    },
    kinds.Kinds: {
        "many": ["self"], "number": ["self", "one"], "at": ["self", "number"],
        "__init__": ["self", "counts", "size"],
    },
}
FUNCTIONS = {texts.written: ["pick"], texts.read: ["text"]}


def package_files():
    return sorted(path for path in PACKAGE.iterdir() if path.name != "__pycache__")


class TestInterface(unittest.TestCase):
    def test_each_name_is_defined_in_its_file(self):
        for module, names in LISTED.items():
            body = ast.parse(pathlib.Path(module.__file__).read_text()).body
            defined = {part.name for part in body if isinstance(part, (ast.ClassDef, ast.FunctionDef))}
            for name in names:
                with self.subTest(name=name):
                    self.assertIn(name, defined)

    def test_each_method_is_defined_in_the_class_itself(self):
        for kind, methods in METHODS.items():
            for name, arguments in methods.items():
                with self.subTest(name=name):
                    self.assertIn(name, vars(kind))
                    self.assertEqual(list(inspect.signature(vars(kind)[name]).parameters), arguments)

    def test_each_function_takes_what_is_listed(self):
        for function, arguments in FUNCTIONS.items():
            self.assertEqual(list(inspect.signature(function).parameters), arguments)


class TestPackage(unittest.TestCase):
    def test_only_python_files(self):
        for path in package_files():
            self.assertEqual((path.is_file(), path.suffix), (True, ".py"))
        self.assertTrue((PACKAGE / "__init__.py").is_file())

    def test_sizes_and_signs(self):
        for path in package_files():
            text = path.read_text()
            with self.subTest(path=path.name):
                self.assertTrue(all(" " <= sign <= "~" or sign == "\n" for sign in text))
                self.assertLessEqual(len(text.splitlines()), 399)
                self.assertLessEqual(max(len(line) for line in text.splitlines()), 120)
                for part in ast.walk(ast.parse(text)):
                    if isinstance(part, ast.FunctionDef):
                        self.assertLessEqual(part.end_lineno - part.lineno + 1, 40)

    def test_nothing_is_imported_from_outside(self):
        for path in package_files():
            for part in ast.walk(ast.parse(path.read_text())):
                self.assertNotIsInstance(part, ast.Import)
                if isinstance(part, ast.ImportFrom):
                    with self.subTest(path=path.name, source=part.module):
                        names = {name.name for name in part.names}
                        own = part.module.startswith("doorpicks.")
                        self.assertTrue(own or names <= ALLOWED.get(part.module, set()))


if __name__ == "__main__":
    unittest.main()
