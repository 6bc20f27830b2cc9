"""Points 7 and 8 and the interface of peershelf.resolving."""

import doctest
import itertools
import unittest

from peershelf.errors import BadLock, BadPackages, BadProject, NoVersion
from peershelf.resolving import kept_version, resolve
from peershelf.versions import satisfies
from tests.support import CheckedCase, not_checkable, package, wishes

EXAMPLES = '''
>>> from peershelf.resolving import resolve
>>> core = (("core", "1.0.0", (), ()), ("core", "2.0.0", (), ()))
>>> left = ("left", "1.0.0", (("core", "^1.0.0"), ("plug", "*")), ())
>>> packages = core + (left, ("plug", "1.0.0", (), (("core", "*"),)))
>>> resolve(packages, (("left", "*"), ("core", "*")), ())
(('core', '*', '2.0.0'), ('core', '^1.0.0', '1.0.0'), ('left', '*', '1.0.0'), ('plug', '*', '1.0.0'))
'''

CORES = tuple(package("core", version) for version in ("1.0.0", "1.9.0", "1.10.0", "2.0.0"))

TWICE = (package("core", "1.0.0"), package("core", "1.0.0"))
BAD_PACKAGES = not_checkable() + [TWICE, list(CORES), ("core",)]
BAD_PROJECTS = not_checkable() + [(("core", "*"), ("core", "*")), [("core", "*")], (("core", "1.0"),)]
BAD_LOCKS = not_checkable() + [(("core", "*", "1.0.0"), ("core", "*", "1.0.0")),
                               [("core", "*", "1.0.0")], (("core", "*"),)]


class Examples(unittest.TestCase):
    def test_the_example_of_the_interface(self):
        examples = doctest.DocTestParser().get_doctest(EXAMPLES, {}, "resolving", None, 0)
        result = doctest.DocTestRunner().run(examples)
        self.assertEqual((result.failed, result.attempted), (0, 5))


class Keeping(CheckedCase):
    LOCK = (("left", "*", "1.0.0"), ("core", "^1.0.0", "1.9.0"), ("core", "*", "1.0.0"), ("core", "^2.0.0", "1.0.0"),
            ("core", "~1.5.0", "1.5.0"))

    def test_kept(self):
        self.assertEqual(kept_version(CORES, self.LOCK, ("core", "^1.0.0")), "1.9.0")
        self.assertEqual(kept_version(CORES, self.LOCK, ("core", "*")), "1.0.0")

    def test_no_entry_with_this_name_and_this_range(self):
        for dependency in (("core", "~1.0.0"), ("core", "1.9.0"), ("core", "* || *"),
                           ("core", ">=1.0.0 <2.0.0"), ("plug", "*"), ("left", "^1.0.0")):
            self.assertIsNone(kept_version(CORES, self.LOCK, dependency))
        self.assertIsNone(kept_version(CORES, (), ("core", "*")))

    def test_the_version_does_not_satisfy_the_range(self):
        self.assertIsNone(kept_version(CORES, self.LOCK, ("core", "^2.0.0")))

    def test_the_package_is_gone(self):
        self.assertIsNone(kept_version(CORES, self.LOCK, ("core", "~1.5.0")))
        self.assertIsNone(kept_version(CORES, self.LOCK, ("left", "*")))
        self.assertIsNone(kept_version((), self.LOCK, ("core", "*")))

    def test_a_package_of_another_name_is_no_candidate(self):
        packages = (package("left", "1.0.0"), package("core", "2.0.0"))
        self.assertIsNone(kept_version(packages, (("core", "*", "1.0.0"),), ("core", "*")))

    def test_the_order_of_the_lock_does_not_matter(self):
        for lock in itertools.permutations(self.LOCK):
            self.assertEqual(kept_version(CORES, lock, ("core", "^1.0.0")), "1.9.0")

    def test_bad_packages_ahead_of_bad_lock(self):
        for packages in BAD_PACKAGES:
            for lock in ((), None, BAD_LOCKS[-1]):
                self.raises(BadPackages, kept_version, packages, lock, ("core", "*"))
        for lock in BAD_LOCKS:
            self.raises(BadLock, kept_version, CORES, lock, ("core", "*"))


class Choosing(CheckedCase):
    def one(self, wanted, lock=(), packages=CORES):
        """The version to which a project's only dependency resolves."""
        ((name, same, version),) = resolve(packages, (("core", wanted),), lock)
        self.assertEqual((name, same), ("core", wanted))
        return version

    def test_the_greatest_candidate_by_numbers(self):
        self.assertEqual(self.one("*"), "2.0.0")
        self.assertEqual(self.one("^1.0.0"), "1.10.0")
        self.assertEqual(self.one(">=1.0.0 <1.10.0"), "1.9.0")
        self.assertEqual(self.one("1.0.0 || 1.9.0"), "1.9.0")
        self.assertEqual(self.one("1.0.0"), "1.0.0")

    def test_ten_is_above_nine_in_each_place(self):
        for nine, ten in (("9.0.0", "10.0.0"), ("1.9.9", "1.10.0"), ("1.0.9", "1.0.10"), ("1.99.0", "1.100.0")):
            packages = (package("core", nine), package("core", ten))
            self.assertEqual(self.one("*", (), packages), ten)
            self.assertEqual(self.one("*", (), packages[::-1]), ten)

    def test_what_the_lock_keeps_is_taken(self):
        for version in ("1.0.0", "1.9.0", "1.10.0"):
            self.assertEqual(self.one("^1.0.0", (("core", "^1.0.0", version),)), version)

    def test_what_is_no_candidate_is_not_kept(self):
        self.assertEqual(self.one("^1.0.0", (("core", "^1.0.0", "2.0.0"),)), "1.10.0")
        self.assertEqual(self.one("^1.0.0", (("core", "^1.0.0", "1.11.0"),)), "1.10.0")
        self.assertEqual(self.one("^1.0.0", (("core", "*", "1.0.0"), ("left", "^1.0.0", "1.0.0"))), "1.10.0")
        self.assertEqual(self.one("^1.0.0", (("core", ">=1.0.0 <2.0.0", "1.0.0"),)), "1.10.0")

    def test_each_range_of_a_name_resolves_by_itself(self):
        packages = CORES + (package("left", "1.0.0", "core ^1.0.0"), package("right", "1.0.0", "core ~1.9.0"))
        lock = resolve(packages, wishes("right *, left *, core *"), (("core", "*", "1.0.0"),))
        self.assertEqual(lock, (("core", "*", "1.0.0"), ("core", "^1.0.0", "1.10.0"), ("core", "~1.9.0", "1.9.0"),
                                ("left", "*", "1.0.0"), ("right", "*", "1.0.0")))


class Reaching(CheckedCase):
    def test_an_empty_project(self):
        self.assertEqual(resolve(CORES, (), ()), ())
        self.assertEqual(resolve((), (), (("core", "*", "1.0.0"),)), ())

    def test_entries_that_nothing_reaches_are_left_out(self):
        lock = (("plug", "*", "1.0.0"), ("core", "*", "1.0.0"), ("core", "^1.0.0", "1.0.0"))
        self.assertEqual(resolve(CORES, wishes("core *"), lock), (("core", "*", "1.0.0"),))

    def test_several_levels(self):
        packages = (package("a", "1.0.0", "b *"), package("b", "1.0.0", "c ^1.0.0"), package("c", "1.0.0", "d *"),
                    package("c", "2.0.0", "e *"), package("d", "1.0.0"))
        self.assertEqual(resolve(packages, wishes("a *"), ()), (
            ("a", "*", "1.0.0"), ("b", "*", "1.0.0"), ("c", "^1.0.0", "1.0.0"), ("d", "*", "1.0.0")))

    def test_the_lock_tells_which_dependencies_are_reached(self):
        packages = (package("a", "1.0.0", "x *"), package("a", "2.0.0", "y *"),
                    package("x", "1.0.0"), package("y", "1.0.0"))
        self.assertEqual(resolve(packages, wishes("a *"), ()), (("a", "*", "2.0.0"), ("y", "*", "1.0.0")))
        lock = (("a", "*", "1.0.0"),)
        self.assertEqual(resolve(packages, wishes("a *"), lock), (("a", "*", "1.0.0"), ("x", "*", "1.0.0")))

    def test_a_ring(self):
        packages = (package("a", "1.0.0", "b *"), package("b", "1.0.0", "c *"), package("c", "1.0.0", "a *"))
        ring = (("a", "*", "1.0.0"), ("b", "*", "1.0.0"), ("c", "*", "1.0.0"))
        for name in ("a", "b", "c"):
            self.assertEqual(resolve(packages, ((name, "*"),), ()), ring)

    def test_a_ring_through_two_ranges(self):
        packages = (package("a", "1.0.0", "b ^1.0.0"), package("b", "1.0.0", "a ^1.0.0"), package("b", "2.0.0", "a *"))
        self.assertEqual(resolve(packages, wishes("b *"), ()), (
            ("a", "*", "1.0.0"), ("a", "^1.0.0", "1.0.0"), ("b", "*", "2.0.0"), ("b", "^1.0.0", "1.0.0")))

    def test_peers_are_not_resolved(self):
        packages = (package("a", "1.0.0", "b *", "core *, gone *"), package("b", "1.0.0", "", "core ^9.0.0")) + CORES
        lock = (("core", "*", "1.0.0"),)
        self.assertEqual(resolve(packages, wishes("a *"), lock), (("a", "*", "1.0.0"), ("b", "*", "1.0.0")))

    def test_the_order_of_the_result(self):
        names = ("a", "a-", "a-b", "a1", "ab", "b")
        packages = tuple(package(name, "1.0.0") for name in names)
        result = resolve(packages, tuple((name, "*") for name in reversed(names)), ())
        self.assertEqual([entry[0] for entry in result], list(names))

    def test_the_order_of_ranges_of_one_name(self):
        ranges = ("*", "* || *", "1.0.0", "1.0.0 || 2.0.0", ">=1.0.0 <10.0.0", ">=1.0.0 <9.0.0", "^1.0.0", "~1.0.0")
        users = tuple(package(f"u{number}", "1.0.0", f"core {ranges[-1 - number]}") for number in range(len(ranges)))
        pair = (package("p", "1.0.0", "u3 *, u1 *, u2 *, u0 *"), package("q", "1.0.0", "u4 *, u7 *, u6 *, u5 *"))
        result = resolve(users + pair + CORES[:1], wishes("q *, p *"), ())
        self.assertEqual([entry[1] for entry in result if entry[0] == "core"], list(ranges))
        names = ["core"] * 8 + ["p", "q"] + [f"u{number}" for number in range(8)]
        self.assertEqual([entry[0] for entry in result], names)

    def test_as_many_entries_as_there_can_be(self):
        names = [f"n{number}" for number in range(16)]
        packages = []
        for number, name in enumerate(names):
            others = [names[(number + step) % 16] for step in range(1, 7)]
            packages.append(package(name, "1.0.0", ", ".join(f"{other} >=0.0.0 <9.0.{number}" for other in others)))
        result = resolve(tuple(packages), tuple((name, "*") for name in names[:6]), ())
        self.assertEqual(len(result), 102)
        self.assertEqual(result, tuple(sorted(result)))
        self.assertEqual(resolve(tuple(packages), tuple((name, "*") for name in names[:6]), result), result)


class WithoutCandidate(CheckedCase):
    def misses(self, name, wanted, packages, project, lock=()):
        """Whether resolving raises NoVersion with this name and this range."""
        error = self.raises(NoVersion, resolve, packages, wishes(project), lock)
        self.assertEqual((error.name, error.wanted), (name, wanted))

    def test_no_package_with_this_name(self):
        self.misses("plug", "*", CORES, "plug *")
        self.misses("plug", "^1.0.0", (), "plug ^1.0.0")

    def test_no_version_satisfies(self):
        self.misses("core", "^3.0.0", CORES, "core ^3.0.0")
        self.misses("core", "1.9.1 || ~2.1.0", CORES, "core 1.9.1 || ~2.1.0")

    def test_a_lock_does_not_help(self):
        self.misses("plug", "*", CORES, "plug *", (("plug", "*", "1.0.0"),))
        self.misses("core", "^3.0.0", CORES, "core ^3.0.0", (("core", "^3.0.0", "1.0.0"),))

    def test_the_first_of_the_project_by_name(self):
        self.misses("b", "~1.0.0", CORES, "z *, core *, c *, b ~1.0.0")

    def test_those_of_the_project_ahead_of_deeper_ones(self):
        packages = (package("a", "1.0.0", "b *"),)
        self.misses("z", "*", packages, "z *, a *")

    def test_the_first_of_a_package_by_name(self):
        packages = CORES + (package("a", "1.0.0", "z *, core *, n *, m ^1.0.0"),)
        self.misses("m", "^1.0.0", packages, "a *")

    def test_packages_in_the_order_in_which_they_were_looked_at(self):
        packages = (package("a", "1.0.0", "z *"), package("b", "1.0.0", "m *"))
        self.misses("z", "*", packages, "b *, a *")

    def test_a_level_ahead_of_what_is_below_it(self):
        packages = (package("a", "1.0.0", "c *"), package("c", "1.0.0", "e *"), package("b", "1.0.0", "m *"))
        self.misses("m", "*", packages, "b *, a *")

    def test_the_levels_below_go_on_in_the_order_of_their_dependents(self):
        packages = (package("a", "1.0.0", "z *"), package("b", "1.0.0", "c *"), package("c", "1.0.0", "d *"),
                    package("z", "1.0.0", "y *"))
        self.misses("y", "*", packages, "a *, b *")

    def test_what_was_looked_at_before_keeps_its_place(self):
        packages = (package("a", "1.0.0", "d *, c *"), package("b", "1.0.0", "e *"), package("c", "1.0.0", "x *"),
                    package("d", "1.0.0", "y *"), package("e", "1.0.0", "w *"))
        self.misses("y", "*", packages, "a *, b *, d *")
        self.misses("x", "*", packages, "a *, b *")

    def test_the_range_that_has_none(self):
        packages = CORES + (package("a", "1.0.0", "core ^4.0.0"), package("b", "1.0.0", "core ^3.0.0"))
        self.misses("core", "^4.0.0", packages, "core *, b *, a *")

    def test_what_nothing_reaches_may_be_without(self):
        packages = CORES + (package("a", "1.0.0", "gone *"),)
        self.assertEqual(resolve(packages, wishes("core *"), ()), (("core", "*", "2.0.0"),))

    def test_versions_that_are_not_taken_may_be_without(self):
        packages = (package("a", "1.0.0"), package("a", "2.0.0", "gone ~1.0.0"))
        self.assertEqual(resolve(packages, wishes("a *"), (("a", "*", "1.0.0"),)), (("a", "*", "1.0.0"),))
        self.misses("gone", "~1.0.0", packages, "a *")


class WrongArguments(CheckedCase):
    def test_bad_packages_ahead_of_all(self):
        for packages in BAD_PACKAGES:
            self.raises(BadPackages, resolve, packages, (("gone", "*"),), ())
            self.raises(BadPackages, resolve, packages, None, None)
            self.raises(BadPackages, resolve, packages, BAD_PROJECTS[-1], BAD_LOCKS[-1])

    def test_bad_project_ahead_of_bad_lock(self):
        for project in BAD_PROJECTS:
            self.raises(BadProject, resolve, CORES, project, ())
            self.raises(BadProject, resolve, CORES, project, None)
            self.raises(BadProject, resolve, CORES, project, BAD_LOCKS[-1])

    def test_bad_lock_ahead_of_no_version(self):
        for lock in BAD_LOCKS:
            self.raises(BadLock, resolve, CORES, (("core", "*"),), lock)
            self.raises(BadLock, resolve, CORES, (("gone", "*"),), lock)


def all_worlds():
    """Packages a 1, a 2 and b 1 with every choice of what they depend on, and projects and locks for them."""
    of_a = ("", "b *", "b ^1.0.0", "b ^1.0.0, c *")
    of_b = ("", "a *", "a ^1.0.0, c ^1.0.0", "c *")
    locks = ((), (("a", "*", "1.0.0"),), (("a", "*", "1.0.0"), ("a", "^1.0.0", "2.0.0"), ("c", "*", "1.0.0")))
    for first, second, third in itertools.product(of_a, of_a, of_b):
        packages = (package("a", "1.0.0", first), package("a", "2.0.0", second), package("b", "1.3.0", third),
                    package("c", "1.0.0"), package("c", "10.0.0"), package("c", "9.0.0"))
        for project, lock in itertools.product(("a *", "b *", "a ^1.0.0, b *", "c *, a *"), locks):
            yield packages, wishes(project), lock


def plain_answer(packages, project, lock):
    """The lock by the words of point 7: a set that grows until nothing is missing."""
    reached = dict.fromkeys(project)
    while None in reached.values():
        for name, wanted in [dependency for dependency in reached if reached[dependency] is None]:
            fitting = [manifest for manifest in packages if manifest[0] == name and satisfies(manifest[1], wanted)]
            kept = [manifest for manifest in fitting if (name, wanted, manifest[1]) in lock]
            chosen = (kept or sorted(fitting, key=lambda one: [int(part) for part in one[1].split(".")]))[-1]
            reached[name, wanted] = chosen[1]
            for dependency in chosen[2]:
                reached.setdefault(dependency)
    return tuple(sorted((name, wanted, version) for (name, wanted), version in reached.items()))


class AllWorlds(unittest.TestCase):
    def test_the_result_is_the_one_of_the_words(self):
        for packages, project, lock in all_worlds():
            self.assertEqual(resolve(packages, project, lock), plain_answer(packages, project, lock))

    def test_resolving_again_gives_it_again(self):
        for packages, project, lock in all_worlds():
            result = resolve(packages, project, lock)
            self.assertEqual(resolve(packages, project, result), result)
            self.assertEqual(resolve(packages[::-1], project[::-1], result[::-1]), result)

    def test_the_lock_keeps_what_it_was_resolved_to(self):
        for packages, project, lock in all_worlds():
            result = resolve(packages, project, lock)
            for name, wanted, version in result:
                self.assertEqual(kept_version(packages, result, (name, wanted)), version)

    def test_the_order_of_what_is_given_does_not_matter(self):
        packages = (package("a", "1.0.0", "d *, c *, b *"), package("a", "2.0.0", "b *"),
                    package("b", "1.0.0", "d ^1.0.0, c *"), package("c", "9.0.0"),
                    package("c", "10.0.0", "d *"), package("d", "1.0.0"))
        lock = (("a", "*", "1.0.0"), ("d", "*", "1.0.0"), ("b", "*", "7.0.0"))
        project = wishes("b *, a *, d *")
        expected = resolve(packages, project, lock)
        self.assertEqual([entry[0] for entry in expected], ["a", "b", "c", "d", "d"])
        for other in itertools.permutations(packages):
            turned = tuple((name, version, wanted[::-1], peers) for name, version, wanted, peers in other)
            self.assertEqual(resolve(turned, project, lock), expected)
        for first, second in itertools.product(itertools.permutations(project), itertools.permutations(lock)):
            self.assertEqual(resolve(packages, first, second), expected)

    def test_the_result_is_a_tuple_of_tuples(self):
        for packages, project, lock in all_worlds():
            result = resolve(packages, project, lock)
            self.assertIs(type(result), tuple)
            self.assertTrue(all(type(entry) is tuple and len(entry) == 3 for entry in result))
