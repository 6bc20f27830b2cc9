"""Points 1 and 2, and that the interface exists as it is written."""

import ast
import copy
import doctest
import importlib
import inspect
import pathlib
import unittest

from peershelf.errors import ShelfError

PACKAGE = pathlib.Path(__file__).resolve().parent.parent / "peershelf"

# Each function and class of the interface, under the module that lists it, with the names of its arguments.
INTERFACE = {
    "peershelf.errors": {
        "NoVersion": ("name", "wanted"), "NotLocked": ("name", "wanted"), "Cycle": ("path",), "MissingPeer": ("path",),
        "InvalidPeer": ("path",), "NoSuchPath": ("path",)},
    "peershelf.versions": {"is_version": ("value",), "is_range": ("value",), "satisfies": ("version", "wanted")},
    "peershelf.manifests": {
        "check_packages": ("value",), "check_project": ("value",), "check_lock": ("value",),
        "find_package": ("packages", "name", "version")},
    "peershelf.resolving": {
        "kept_version": ("packages", "lock", "dependency"), "resolve": ("packages", "project", "lock")},
}

# What would reach a clock, random numbers, files, or the world outside otherwise.
OUTSIDE = ("open", "input", "print", "eval", "exec", "compile", "breakpoint", "globals", "locals", "vars", "hash", "id")

PACKAGES = (("core", "2.0.0", (), ()), ("left", "1.0.0", (("plug", "*"), ("core", "*")), (("peer", "*"),)),
            ("core", "1.0.0", (), ()), ("plug", "1.0.0", (), ()))
PROJECT = (("left", "*"), ("core", "^1.0.0"))
LOCK = (("left", "*", "1.0.0"), ("core", "*", "1.0.0"))

CALLS = (
    ("peershelf.versions", "is_version", ("1.0.0",)),
    ("peershelf.versions", "is_version", (["1.0.0"],)),
    ("peershelf.versions", "is_range", ("* || ^1.0.0",)),
    ("peershelf.versions", "is_range", ({"*": ["*"]},)),
    ("peershelf.versions", "satisfies", ("1.0.0", "* || ^1.0.0")),
    ("peershelf.versions", "satisfies", (["1.0.0"], ["*"])),
    ("peershelf.manifests", "check_packages", (PACKAGES,)),
    ("peershelf.manifests", "check_packages", ([list(PACKAGES[1]), PACKAGES[0]],)),
    ("peershelf.manifests", "check_packages", ((("a", "1.0.0", [("z", "*"), ("b", "*")], ()),),)),
    ("peershelf.manifests", "check_project", (PROJECT,)),
    ("peershelf.manifests", "check_project", (list(PROJECT),)),
    ("peershelf.manifests", "check_lock", (LOCK,)),
    ("peershelf.manifests", "check_lock", ((list(LOCK[0]), LOCK[1]),)),
    ("peershelf.manifests", "find_package", (PACKAGES, "core", "1.0.0")),
    ("peershelf.resolving", "kept_version", (PACKAGES, LOCK, ("core", "*"))),
    ("peershelf.resolving", "resolve", (PACKAGES, PROJECT, LOCK)),
    ("peershelf.resolving", "resolve", (PACKAGES, list(PROJECT), LOCK)),
)


def outcome(module, name, arguments):
    """What a call gives, or the class of the error that it raises."""
    try:
        return getattr(importlib.import_module(module), name)(*arguments)
    except ShelfError as error:
        return type(error)


class Interface(unittest.TestCase):
    def test_each_name_is_defined_in_its_module(self):
        for module, names in INTERFACE.items():
            for name in names:
                with self.subTest(f"{module}.{name}"):
                    thing = getattr(importlib.import_module(module), name)
                    self.assertEqual((thing.__module__, thing.__name__), (module, name))

    def test_each_takes_the_arguments_that_are_listed(self):
        for module, names in INTERFACE.items():
            for name, arguments in names.items():
                with self.subTest(f"{module}.{name}"):
                    signature = inspect.signature(getattr(importlib.import_module(module), name))
                    self.assertEqual(tuple(signature.parameters), arguments)


class NothingElse(unittest.TestCase):
    def trees(self):
        """The syntax trees of the files of the package, by file name."""
        return {path.name: ast.parse(path.read_text("ascii")) for path in PACKAGE.glob("*.py")}

    def test_only_the_package_itself_is_imported(self):
        for file, tree in self.trees().items():
            for node in ast.walk(tree):
                self.assertNotIsInstance(node, ast.Import, file)
                if isinstance(node, ast.ImportFrom):
                    self.assertTrue(node.module.startswith("peershelf."), (file, node.module))

    def test_nothing_reaches_the_world_outside(self):
        for file, tree in self.trees().items():
            used = {node.id for node in ast.walk(tree) if isinstance(node, ast.Name)}
            self.assertEqual(sorted(used.intersection(OUTSIDE)), [], file)

    def test_no_argument_is_modified(self):
        for module, name, arguments in CALLS:
            with self.subTest(f"{module}.{name}"):
                before = copy.deepcopy(arguments)
                outcome(module, name, arguments)
                self.assertEqual(arguments, before)

    def test_the_same_call_gives_the_same_again(self):
        for module, name, arguments in CALLS:
            with self.subTest(f"{module}.{name}"):
                self.assertEqual(outcome(module, name, arguments), outcome(module, name, arguments))


class Readme(unittest.TestCase):
    def test_the_examples_of_the_readme(self):
        result = doctest.testfile(str(PACKAGE.parent / "README.md"), module_relative=False)
        self.assertEqual(result.failed, 0)
        self.assertGreater(result.attempted, 0)
