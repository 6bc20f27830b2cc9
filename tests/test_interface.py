"""Points 1 and 2, and that the interface exists as it is written."""

import ast
import copy
import doctest
import importlib
import inspect
import pathlib
import unittest

from peershelf.errors import ShelfError
from peershelf.occurrences import View
from peershelf.works import Works

PACKAGE = pathlib.Path(__file__).resolve().parent.parent / "peershelf"

WORLD = ("packages", "project", "lock")

# Each function and class of the interface, under the module that lists it, with the names of its arguments.
INTERFACE = {
    "peershelf.errors": {
        "NoVersion": ("name", "wanted"), "NotLocked": ("name", "wanted"), "Cycle": ("path",), "MissingPeer": ("path",),
        "InvalidPeer": ("path",), "NoSuchPath": ("path",)},
    "peershelf.versions": {"is_version": ("value",), "is_range": ("value",), "satisfies": ("version", "wanted")},
    "peershelf.manifests": {
        "check_packages": ("value",), "check_project": ("value",), "check_lock": ("value",),
        "find_package": ("packages", "name", "version")},
    "peershelf.resolving": {
        "kept_version": ("packages", "lock", "dependency"), "resolve": ("packages", "project", "lock")},
    "peershelf.occurrences": {"View": WORLD, "occurrences": WORLD},
    "peershelf.shelves": {
        "build": WORLD, "shelf_indices": WORLD, "duplicates": WORLD, "tell_apart": WORLD + ("one", "other"),
        "is_valid": WORLD + ("shelf",)},
    "peershelf.papers": {
        "judge_apart": WORLD + ("one", "other", "paper"), "judge_onto": WORLD + ("shelf", "paper"),
        "judge_fewest": WORLD + ("shelf", "paper"), "explain_apart": WORLD + ("one", "other"),
        "explain_fewest": WORLD + ("shelf",), "explain_onto": WORLD + ("shelf",)},
    "peershelf.works": {"Works": ()},
}

# Each method that the interface lists for a class, with the names of its arguments.
METHODS = {
    ("peershelf.occurrences", "View"): {
        "package": ("path",), "sees": ("path", "name"), "links": ("path",), "__len__": (), "__iter__": ()},
    ("peershelf.works", "Works"): {
        "packages": (), "publish": ("manifest",), "withdraw": ("name", "version"),
        "set_dependency": ("project", "name", "wanted"), "update": ("project", "names"),
        "install": ("project", "outcomes", "most"), "follow": ("project", "names"), "status": ("project",),
        "entries": (), "collect": (), "tried": (), "foresee": ("project", "outcomes", "most"), "__len__": ()},
}

# What would reach a clock, random numbers, files, or the world outside otherwise.
OUTSIDE = ("open", "input", "print", "eval", "exec", "compile", "breakpoint", "globals", "locals", "vars", "hash", "id")

PACKAGES = (("core", "2.0.0", (), ()), ("left", "1.0.0", (("plug", "*"), ("core", "*")), (("peer", "*"),)),
            ("core", "1.0.0", (), ()), ("plug", "1.0.0", (), ()))
PROJECT = (("left", "*"), ("core", "^1.0.0"))
LOCK = (("left", "*", "1.0.0"), ("core", "*", "1.0.0"))

# Packages and a project that has a shelf: core in two versions, plug in two instances.
GOOD = ((("core", "2.0.0", (), ()), ("plug", "1.0.0", (), (("core", "*"),)), ("core", "1.0.0", (), ()),
         ("left", "1.0.0", (("plug", "*"), ("core", "^1.0.0")), ())),
        (("plug", "*"), ("left", "*"), ("core", "*")),
        (("plug", "*", "1.0.0"), ("left", "*", "1.0.0"), ("core", "^1.0.0", "1.0.0"), ("core", "*", "2.0.0")))
SHELF = ((("core", 0), ("left", 1), ("plug", 2)),
         (("core", "2.0.0", (), ()), ("left", "1.0.0", (("core", 3), ("plug", 4)), ()),
          ("plug", "1.0.0", (), (("core", 0),)), ("core", "1.0.0", (), ()), ("plug", "1.0.0", (), (("core", 3),))))
TWO = (("plug",), ("left", "plug"))

CALLS = (
    ("peershelf.versions", "is_version", ("1.0.0",)),
    ("peershelf.versions", "is_version", (["1.0.0"],)),
    ("peershelf.versions", "is_range", ("* || ^1.0.0",)),
    ("peershelf.versions", "is_range", ({"*": ["*"]},)),
    ("peershelf.versions", "satisfies", ("1.0.0", "* || ^1.0.0")),
    ("peershelf.versions", "satisfies", (["1.0.0"], ["*"])),
    ("peershelf.manifests", "check_packages", (PACKAGES,)),
    ("peershelf.manifests", "check_packages", ([list(PACKAGES[1]), PACKAGES[0]],)),
    ("peershelf.manifests", "check_packages", ((("a", "1.0.0", [("z", "*"), ("b", "*")], ()),),)),
    ("peershelf.manifests", "check_project", (PROJECT,)),
    ("peershelf.manifests", "check_project", (list(PROJECT),)),
    ("peershelf.manifests", "check_lock", (LOCK,)),
    ("peershelf.manifests", "check_lock", ((list(LOCK[0]), LOCK[1]),)),
    ("peershelf.manifests", "find_package", (PACKAGES, "core", "1.0.0")),
    ("peershelf.resolving", "kept_version", (PACKAGES, LOCK, ("core", "*"))),
    ("peershelf.resolving", "resolve", (PACKAGES, PROJECT, LOCK)),
    ("peershelf.resolving", "resolve", (PACKAGES, list(PROJECT), LOCK)),
    ("peershelf.occurrences", "occurrences", GOOD),
    ("peershelf.occurrences", "occurrences", (PACKAGES, PROJECT, LOCK)),
    ("peershelf.occurrences", "occurrences", (list(GOOD[0]), list(GOOD[1]), list(GOOD[2]))),
    ("peershelf.shelves", "build", GOOD),
    ("peershelf.shelves", "shelf_indices", GOOD),
    ("peershelf.shelves", "duplicates", GOOD),
    ("peershelf.shelves", "tell_apart", GOOD + TWO),
    ("peershelf.shelves", "tell_apart", GOOD + (["plug"], ["left"])),
    ("peershelf.shelves", "is_valid", GOOD + (SHELF,)),
    ("peershelf.shelves", "is_valid", GOOD + ([list(SHELF[0]), list(SHELF[1])],)),
    ("peershelf.papers", "judge_apart", GOOD + TWO + (("apart", ("core",)),)),
    ("peershelf.papers", "judge_apart", GOOD + TWO + (["same", [["plug"], ["plug"]]],)),
    ("peershelf.papers", "judge_onto", GOOD + (SHELF, ("onto", (0, 1, 2, 3, 4)))),
    ("peershelf.papers", "judge_onto", GOOD + (SHELF, ["onto", [0, 1, 2, 3, 4]])),
    ("peershelf.papers", "judge_fewest", GOOD + (SHELF, ("fewest", (("core",),)))),
    ("peershelf.papers", "judge_fewest", GOOD + (SHELF, ["fewest", [["core"]]])),
    ("peershelf.papers", "explain_apart", GOOD + TWO),
    ("peershelf.papers", "explain_fewest", GOOD + (SHELF,)),
    ("peershelf.papers", "explain_onto", GOOD + (SHELF,)),
)


def outcome(module, name, arguments):
    """What a call gives, or the class of the error that it raises."""
    try:
        return getattr(importlib.import_module(module), name)(*arguments)
    except ShelfError as error:
        return type(error)


class Interface(unittest.TestCase):
    def test_each_name_is_defined_in_its_module(self):
        for module, names in INTERFACE.items():
            for name in names:
                with self.subTest(f"{module}.{name}"):
                    thing = getattr(importlib.import_module(module), name)
                    self.assertEqual((thing.__module__, thing.__name__), (module, name))

    def test_each_takes_the_arguments_that_are_listed(self):
        for module, names in INTERFACE.items():
            for name, arguments in names.items():
                with self.subTest(f"{module}.{name}"):
                    signature = inspect.signature(getattr(importlib.import_module(module), name))
                    self.assertEqual(tuple(signature.parameters), arguments)


    def test_each_method_is_defined_in_its_class(self):
        for (module, name), methods in METHODS.items():
            owner = getattr(importlib.import_module(module), name)
            for method, arguments in methods.items():
                with self.subTest(f"{module}.{name}.{method}"):
                    self.assertIn(method, vars(owner))
                    self.assertEqual(tuple(inspect.signature(vars(owner)[method]).parameters)[1:], arguments)

    def test_what_is_passed_by_keyword(self):
        for method in ("install", "foresee"):
            parameters = inspect.signature(getattr(Works, method)).parameters
            self.assertEqual(parameters["outcomes"].default, ())
            self.assertEqual(parameters["most"].default, 1000)
            self.assertIs(parameters["most"].kind, inspect.Parameter.KEYWORD_ONLY)
            with self.assertRaises(TypeError):
                getattr(Works(), method)(0, (), 5)

    def test_the_attributes_are_set_when_the_object_is_created(self):
        self.assertIn("paths", vars(View(*GOOD)))
        for name in ("projects", "locks", "shelves"):
            self.assertIn(name, vars(Works()))


class NothingElse(unittest.TestCase):
    def trees(self):
        """The syntax trees of the files of the package, by file name."""
        return {path.name: ast.parse(path.read_text("ascii")) for path in PACKAGE.glob("*.py")}

    def test_only_the_package_itself_is_imported(self):
        for file, tree in self.trees().items():
            for node in ast.walk(tree):
                self.assertNotIsInstance(node, ast.Import, file)
                if isinstance(node, ast.ImportFrom):
                    self.assertTrue(node.module.startswith("peershelf."), (file, node.module))

    def test_nothing_reaches_the_world_outside(self):
        for file, tree in self.trees().items():
            used = {node.id for node in ast.walk(tree) if isinstance(node, ast.Name)}
            self.assertEqual(sorted(used.intersection(OUTSIDE)), [], file)

    def test_no_argument_is_modified(self):
        for module, name, arguments in CALLS:
            with self.subTest(f"{module}.{name}"):
                before = copy.deepcopy(arguments)
                outcome(module, name, arguments)
                self.assertEqual(arguments, before)

    def test_the_same_call_gives_the_same_again(self):
        for module, name, arguments in CALLS:
            with self.subTest(f"{module}.{name}"):
                self.assertEqual(outcome(module, name, arguments), outcome(module, name, arguments))


class Readme(unittest.TestCase):
    def test_the_examples_of_the_readme(self):
        result = doctest.testfile(str(PACKAGE.parent / "README.md"), module_relative=False)
        self.assertEqual(result.failed, 0)
        self.assertGreater(result.attempted, 0)
