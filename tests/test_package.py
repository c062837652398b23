"""The package as a whole: the interface, and point 1: no clock, no chance, no files.

Clock, chance and files are reached only through an import from outside or
through one of Python's own names, so it is enough to look at these two.
"""
import ast
import builtins
import inspect
import os
import unittest

from pilotpair import asking, staying, wishes

ROOT = os.path.dirname(os.path.dirname(os.path.abspath(__file__)))
PACKAGE = os.path.join(ROOT, "pilotpair")

# The names of Python's own that rule L8 allows.
ALLOWED = set(
    """
    len range enumerate zip min max sum abs sorted reversed int str bool list tuple dict set
    frozenset isinstance ord repr any all divmod True False None
    Exception ValueError TypeError KeyError IndexError LookupError ZeroDivisionError
    ArithmeticError OverflowError RuntimeError NotImplementedError AttributeError StopIteration
    """.split()
)


def imports_from_outside(tree):
    found = []
    for node in ast.walk(tree):
        if isinstance(node, ast.Import):
            found.extend(alias.name for alias in node.names)
        if isinstance(node, ast.ImportFrom):
            own = node.level == 0 and (node.module + ".").startswith("pilotpair.")
            if not own and node.module != "__future__":
                found.append(node.module)
    return found


def names_not_allowed(tree):
    used = {node.id for node in ast.walk(tree) if isinstance(node, ast.Name)}
    hidden = {name for name in used if name.startswith("__")}
    return sorted(hidden | (used & set(dir(builtins))) - ALLOWED)


def package_files():
    return sorted(name for name in os.listdir(PACKAGE) if name != "__pycache__")


def package_trees():
    for name in package_files():
        with open(os.path.join(PACKAGE, name), encoding="ascii") as file:
            yield name, ast.parse(file.read())


class Package(unittest.TestCase):
    def test_its_files_are_there(self):
        for name in ("__init__.py", "asking.py", "errors.py", "staying.py", "wishes.py"):
            self.assertIn(name, package_files())

    def test_it_holds_python_files_alone(self):
        for name in package_files():
            self.assertTrue(name.endswith(".py"), name)

    def test_it_imports_nothing_from_outside(self):
        for name, tree in package_trees():
            with self.subTest(file=name):
                self.assertEqual(imports_from_outside(tree), [])

    def test_it_uses_no_name_that_reaches_outside(self):
        for name, tree in package_trees():
            with self.subTest(file=name):
                self.assertEqual(names_not_allowed(tree), [])


class Interface(unittest.TestCase):
    def test_functions_and_their_arguments(self):
        told = (
            (wishes, "rather", ["wishes", "one", "other"]),
            (asking, "paired", ["pilots", "boats"]),
            (asking, "askings", ["pilots", "boats"]),
            (staying, "loose", ["pilots", "boats", "pairs"]),
            (staying, "stays", ["pilots", "boats", "pairs"]),
        )
        for module, name, arguments in told:
            with self.subTest(name=name):
                function = getattr(module, name)
                self.assertEqual(function.__module__, module.__name__)
                self.assertEqual(list(inspect.signature(function).parameters), arguments)


class TheseChecks(unittest.TestCase):
    """What looks for clock, chance and files does find them."""

    def test_imports_are_found(self):
        for text in ("import time", "from random import choice", "import os.path as p", "from . import errors"):
            self.assertNotEqual(imports_from_outside(ast.parse(text)), [], text)
        self.assertEqual(imports_from_outside(ast.parse("from pilotpair.errors import Twice")), [])

    def test_names_are_found(self):
        for text in ("open('x')", "__import__('time')", "eval('1')", "input()", "print(1)"):
            self.assertNotEqual(names_not_allowed(ast.parse(text)), [], text)
        self.assertEqual(names_not_allowed(ast.parse("len([one])")), [])


if __name__ == "__main__":
    unittest.main()
