"""Points 5 and 6 and the interface of peershelf.manifests."""

from peershelf.errors import BadLock, BadPackages, BadProject
from peershelf.manifests import check_lock, check_packages, check_project, find_package
from tests.support import CheckedCase, HostileText, HostileTuple, no_texts, not_checkable, package

NAMES = ("a", "z", "core", "a1", "a-", "a--", "a-b", "a0123456789", "abcdefghijkl", "z-9-z-9-z-9-", "a00000000000")

NO_NAMES = (
    "", "abcdefghijklm", "a" * 100, "1", "1a", "9core", "-", "-a", "0-a", "A", "Core", "coRe", "corE", "CORE", "co_re",
    "co re", " core", "core ", "core\n", "\ncore", "co.re", "co/re", "@core", "co+re", "*",
    "\u00e4", "co\u00e4re", "\u0430", "a\u0661", "a\u00b2", "a\x00", "{", "`", "a{", "a`", "a/", "a:", "a,", "a\u2010b",
)

NO_VERSIONS = ("", "*", "1", "1.0", "01.0.0", "1000.0.0", "1.0.0.0", "^1.0.0", " 1.0.0", "1.0.0\n", "-1.0.0")

NO_RANGES = ("", "1", "^1.0", "*||*", "* || * || * || *", ">=1.0.0 <1.0.0", ">1.0.0", " *", "* ", "01.0.0", "latest")


def several(many, first=0):
    """So many dependencies with different names."""
    return tuple((f"n{number}", "*") for number in range(first, first + many))


def manifests(many):
    """So many manifests of different packages."""
    return tuple((f"n{number}", "1.0.0", (), ()) for number in range(many))


def entries(many):
    """So many entries of a lock with different names."""
    return tuple((f"n{number}", "*", "1.0.0") for number in range(many))


def no_dependencies():
    """Values that are no dependency; a new list each time."""
    wrong = [(), ("a",), ("a", "*", "1.0.0"), ["a", "*"], "a*", ("*", "a"), (("a", "*"),), {"a": "*"}, HostileTuple()]
    wrong += [(name, "*") for name in list(NO_NAMES) + no_texts() + [("a",)]]
    wrong += [("a", wanted) for wanted in list(NO_RANGES) + no_texts() + [("*",)]]
    return wrong + no_texts()


def no_manifests():
    """Values that are no manifest; a new list each time."""
    wrong = [(), ("a",), ("a", "1.0.0"), ("a", "1.0.0", ()), ("a", "1.0.0", (), (), ()), ["a", "1.0.0", (), ()],
             ("1.0.0", "a", (), ()), (("a", "1.0.0"), (), ()), HostileTuple(), "a", "abcd"]
    wrong += [(name, "1.0.0", (), ()) for name in list(NO_NAMES) + no_texts() + [("a",)]]
    wrong += [("a", version, (), ()) for version in list(NO_VERSIONS) + no_texts() + [("1.0.0",)]]
    for value in no_dependencies():
        wrong += [("a", "1.0.0", (value,), ()), ("a", "1.0.0", (), (value,)), ("a", "1.0.0", (("b", "*"), value), ())]
    for value in no_texts() + ["", "b*", [("b", "*")], {"b": "*"}, ("b", "*"), several(7), HostileTuple()]:
        wrong += [("a", "1.0.0", value, ()), ("a", "1.0.0", (), value)]
    return wrong + no_texts()


def no_entries():
    """Values that are no entry of a lock; a new list each time."""
    wrong = [(), ("a",), ("a", "*"), ("a", "*", "1.0.0", ()), ["a", "*", "1.0.0"], ("*", "a", "1.0.0"),
             ("a", "1.0.0", "*"), "a*1", {"a": "*", "b": "*", "c": "*"}, HostileTuple()]
    wrong += [(name, "*", "1.0.0") for name in list(NO_NAMES) + no_texts() + [("a",)]]
    wrong += [("a", wanted, "1.0.0") for wanted in list(NO_RANGES) + no_texts() + [("*",)]]
    wrong += [("a", "*", version) for version in list(NO_VERSIONS) + no_texts() + [("1.0.0",)]]
    return wrong + no_texts()


class Packages(CheckedCase):
    def test_packages(self):
        for value in ((), (package("a", "1.0.0"),), (package("a", "1.0.0", "b *, c ^1.0.0", "d ~1.0.0"),),
                      (package("a", "1.0.0"), package("a", "2.0.0"), package("b", "1.0.0"))):
            self.assertIsNone(check_packages(value))

    def test_names(self):
        for name in NAMES:
            with self.subTest(name):
                self.assertIsNone(check_packages(((name, "1.0.0", (), ()),)))
                self.assertIsNone(check_packages((("q", "1.0.0", ((name, "*"),), ()),)))
                self.assertIsNone(check_packages((("q", "1.0.0", (), ((name, "*"),)),)))

    def test_what_is_no_manifest(self):
        for value in no_manifests():
            self.raises(BadPackages, check_packages, (value,))
            self.raises(BadPackages, check_packages, (package("q", "1.0.0"), value))
            self.raises(BadPackages, check_packages, (value, package("q", "1.0.0")))

    def test_what_is_no_tuple(self):
        for value in not_checkable() + [[package("a", "1.0.0")], {package("a", "1.0.0"): 1}, package("a", "1.0.0")]:
            self.raises(BadPackages, check_packages, value)

    def test_six_dependencies_and_six_peers(self):
        self.assertIsNone(check_packages((("a", "1.0.0", several(6), several(6, 6)),)))
        self.raises(BadPackages, check_packages, (("a", "1.0.0", several(7), ()),))
        self.raises(BadPackages, check_packages, (("a", "1.0.0", (), several(7)),))

    def test_names_within_a_manifest_are_different(self):
        for dependencies, peers in (
                ("b *, b *", ""), ("b *, b ^1.0.0", ""), ("b *, c *, b *", ""), ("", "b *, b *"),
                ("", "b *, c *, b ^1.0.0"), ("b *", "b *"), ("b *", "b ^1.0.0"), ("b *, c *", "d *, c *"), ("a *", ""),
                ("b *, a ^1.0.0", ""), ("", "a *"), ("b *", "c *, a *"), ("a *", "a *")):
            self.raises(BadPackages, check_packages, (package("a", "1.0.0", dependencies, peers),))

    def test_names_of_different_manifests_may_be_the_same(self):
        value = (package("a", "1.0.0", "b *", "c *"), package("b", "1.0.0", "a *", "c *"), package("c", "1.0.0", "b *"))
        self.assertIsNone(check_packages(value))

    def test_dependencies_and_peers_in_any_order(self):
        self.assertIsNone(check_packages((package("b", "1.0.0", "z *, a *", "y *, c *"), package("a", "1.0.0"))))

    def test_sixteen_manifests(self):
        self.assertIsNone(check_packages(manifests(15)))
        self.assertIsNone(check_packages(manifests(16)))
        self.raises(BadPackages, check_packages, manifests(17))
        self.raises(BadPackages, check_packages, manifests(100))

    def test_the_same_package_twice(self):
        one = package("a", "1.0.0")
        for value in ((one, one), (one, package("a", "1.0.0", "b *")), (one, package("b", "1.0.0"), one),
                      (package("b", "2.0.0"), one, package("a", "1.0.0", "", "c *"))):
            self.raises(BadPackages, check_packages, value)

    def test_the_argument_stays(self):
        value = [["a", "1.0.0", [["z", "*"], ["b", "*"]], []]]
        self.raises(BadPackages, check_packages, value)
        self.assertEqual(value, [["a", "1.0.0", [["z", "*"], ["b", "*"]], []]])


class Projects(CheckedCase):
    def test_projects(self):
        for value in ((), (("a", "*"),), (("b", "^1.0.0"), ("a", "1.0.0 || ~2.0.0"))):
            self.assertIsNone(check_project(value))

    def test_names(self):
        for name in NAMES:
            self.assertIsNone(check_project(((name, "*"),)), name)

    def test_what_is_no_dependency(self):
        for value in no_dependencies():
            self.raises(BadProject, check_project, (value,))
            self.raises(BadProject, check_project, (("q", "*"), value))
            self.raises(BadProject, check_project, (value, ("q", "*")))

    def test_what_is_no_tuple(self):
        for value in not_checkable() + [[("a", "*")], {("a", "*"): 1}, ("a", "*"), {"a": "*"}]:
            self.raises(BadProject, check_project, value)

    def test_six_dependencies(self):
        self.assertIsNone(check_project(several(5)))
        self.assertIsNone(check_project(several(6)))
        self.raises(BadProject, check_project, several(7))
        self.raises(BadProject, check_project, several(100))

    def test_the_same_name_twice(self):
        for value in ((("a", "*"), ("a", "*")), (("a", "*"), ("a", "^1.0.0")),
                      (("a", "*"), ("b", "*"), ("a", "1.0.0"))):
            self.raises(BadProject, check_project, value)

    def test_the_argument_stays(self):
        value = [["z", "*"], ["b", "*"]]
        self.raises(BadProject, check_project, value)
        self.assertEqual(value, [["z", "*"], ["b", "*"]])


class Locks(CheckedCase):
    def test_locks(self):
        for value in ((), (("a", "*", "1.0.0"),), (("b", "*", "1.0.0"), ("a", "^1.0.0", "1.2.0"))):
            self.assertIsNone(check_lock(value))

    def test_a_version_need_not_satisfy_its_range(self):
        self.assertIsNone(check_lock((("a", "^1.0.0", "2.0.0"),)))

    def test_names(self):
        for name in NAMES:
            self.assertIsNone(check_lock(((name, "*", "1.0.0"),)), name)

    def test_what_is_no_entry(self):
        for value in no_entries():
            self.raises(BadLock, check_lock, (value,))
            self.raises(BadLock, check_lock, (("q", "*", "1.0.0"), value))
            self.raises(BadLock, check_lock, (value, ("q", "*", "1.0.0")))

    def test_what_is_no_tuple(self):
        for value in not_checkable() + [[("a", "*", "1.0.0")], {("a", "*", "1.0.0"): 1}, ("a", "*", "1.0.0")]:
            self.raises(BadLock, check_lock, value)

    def test_one_hundred_and_two_entries(self):
        self.assertIsNone(check_lock(entries(101)))
        self.assertIsNone(check_lock(entries(102)))
        self.raises(BadLock, check_lock, entries(103))
        self.raises(BadLock, check_lock, entries(500))

    def test_the_same_name_and_range_twice(self):
        one = ("a", "*", "1.0.0")
        for value in ((one, one), (one, ("a", "*", "2.0.0")), (one, ("b", "*", "1.0.0"), ("a", "*", "3.0.0"))):
            self.raises(BadLock, check_lock, value)

    def test_the_same_name_with_two_ranges(self):
        self.assertIsNone(check_lock((("a", "*", "1.0.0"), ("a", "^1.0.0", "1.0.0"), ("a", "* || *", "2.0.0"))))
        self.assertIsNone(check_lock((("a", "*", "1.0.0"), ("b", "*", "1.0.0"))))

    def test_the_argument_stays(self):
        value = [["z", "*", "1.0.0"], ["b", "*", "1.0.0"]]
        self.raises(BadLock, check_lock, value)
        self.assertEqual(value, [["z", "*", "1.0.0"], ["b", "*", "1.0.0"]])


class Finding(CheckedCase):
    PACKAGES = (package("core", "1.0.0"), package("left", "1.0.0", "core *", "plug *"),
                package("core", "2.0.0", "left *"))

    def test_a_package_that_is_there(self):
        for manifest in self.PACKAGES:
            self.assertEqual(find_package(self.PACKAGES, manifest[0], manifest[1]), manifest)

    def test_a_package_that_is_not_there(self):
        for name, version in (("core", "3.0.0"), ("left", "2.0.0"), ("plug", "1.0.0"), ("cor", "1.0.0"),
                              ("core", "1.0"), ("", ""), ("core", "*")):
            self.assertIsNone(find_package(self.PACKAGES, name, version))
        self.assertIsNone(find_package((), "core", "1.0.0"))

    def test_bad_packages(self):
        for value in not_checkable() + [list(self.PACKAGES), manifests(17), self.PACKAGES + self.PACKAGES[:1]]:
            self.raises(BadPackages, find_package, value, "core", "1.0.0")


class DerivedTexts(CheckedCase):
    def test_texts_of_derived_classes_are_not_trusted(self):
        text = HostileText("a")
        self.raises(BadPackages, check_packages, ((text, "1.0.0", (), ()),))
        self.raises(BadProject, check_project, ((text, "*"),))
        self.raises(BadLock, check_lock, ((text, "*", "1.0.0"),))
