"""Points 22, 23, 26 and 28 and the interface of peershelf.works; installations have a file of their own."""

import unittest

from peershelf.errors import (AlreadyPublished, BadPackages, BadProject, Cycle, InvalidPeer, MissingPeer,
                              NoSuchDependency, NotPublished, NoVersion, TooMany)
from peershelf.shelves import build
from peershelf.works import Works
from tests.support import CheckedCase, Hostile, HostileText, HostileTuple, not_checkable, package, wishes
from tests.worlds import ladder

CORES = (package("core", "1.0.0"), package("core", "2.0.0"))
PLUGS = CORES + (package("plug", "1.0.0", "", "core *"), package("left", "1.0.0", "core ^1.0.0, plug *"))


def works_with(packages, *projects):
    """Works with these packages and, in short, the dependencies of the projects."""
    works = Works()
    for manifest in packages:
        works.publish(manifest)
    for number, text in enumerate(projects):
        for name, wanted in wishes(text):
            works.set_dependency(number, name, wanted)
    return works


def all_of(works):
    """All that works tell of themselves."""
    follow = tuple(works.follow(number, names) for number in range(3)
                   for names in (("left", "plug", "core"), ("core",), ("plug", "core"), ("a",), ("a", "b")))
    return (works.projects, works.locks, works.shelves, works.packages(), works.entries(), len(works), follow)


class Case(CheckedCase):
    def refuses(self, error, works, method, *arguments, **more):
        """The error of a call that changes nothing."""
        before = all_of(works)
        with self.assertRaises(error) as caught:
            getattr(works, method)(*arguments, **more)
        self.assertIs(type(caught.exception), error)
        self.assertEqual(all_of(works), before)
        return caught.exception


class New(Case):
    def test_all_is_empty(self):
        works = Works()
        self.assertEqual(works.projects, ((), (), ()))
        self.assertEqual(works.locks, ((), (), ()))
        self.assertEqual(works.shelves, (None, None, None))
        self.assertEqual((works.packages(), works.entries(), len(works)), ((), (), 0))

    def test_works_do_not_share_anything(self):
        one, other = Works(), Works()
        one.publish(package("core", "1.0.0"))
        one.set_dependency(0, "core", "*")
        one.install(0)
        self.assertEqual(all_of(other), all_of(Works()))


class Publishing(Case):
    def test_in_the_order_in_which_they_were_published(self):
        works, rows = Works(), (package("z", "1.0.0"), package("a", "2.0.0", "z *"), package("a", "1.0.0"))
        self.assertEqual([works.publish(row) for row in rows], [1, 2, 3])
        self.assertEqual(works.packages(), rows)

    def test_what_is_no_manifest(self):
        works = works_with(CORES)
        for value in not_checkable() + [CORES, ("a", "1.0.0", ()), ["a", "1.0.0", (), ()], ("A", "1.0.0", (), ()),
                                        ("a", "1.0", (), ()), package("a", "1.0.0", "a *"), HostileTuple(CORES[0]),
                                        package("a", "1.0.0", "b *", "b *"), ("a", "1.0.0", [], ()), Hostile(),
                                        package("a", "1.0.0", "b *, c *, d *, e *, f *, g *, h *"), (Hostile(),) * 4]:
            self.refuses(BadPackages, works, "publish", value)

    def test_published_before(self):
        works = works_with(CORES)
        for row in CORES + (package("core", "1.0.0", "left *"),):
            self.refuses(AlreadyPublished, works, "publish", row)
        self.assertEqual(works.publish(package("core", "1.0.1")), 3)
        self.assertEqual(works.publish(package("left", "1.0.0")), 4)

    def test_a_package_that_was_withdrawn_is_not_published_again(self):
        works = works_with(CORES)
        self.assertEqual(works.withdraw("core", "1.0.0"), 1)
        for row in CORES + (package("core", "1.0.0", "left *"),):
            self.refuses(AlreadyPublished, works, "publish", row)
        self.assertEqual(works.packages(), CORES[1:])

    def test_16_withdrawn_ones_included(self):
        works = Works()
        for number in range(15):
            self.assertEqual(works.publish(package("core", f"{number}.0.0")), number + 1)
        for number in range(10):
            self.assertEqual(works.withdraw("core", f"{number}.0.0"), 14 - number)
        self.assertEqual(works.publish(package("core", "15.0.0")), 6)
        self.refuses(TooMany, works, "publish", package("core", "16.0.0"))
        self.assertEqual(works.withdraw("core", "15.0.0"), 5)
        self.refuses(TooMany, works, "publish", package("core", "16.0.0"))
        self.assertEqual([row[1] for row in works.packages()], [f"{number}.0.0" for number in range(10, 15)])

    def test_bad_packages_ahead_of_already_published_ahead_of_too_many(self):
        works = works_with(tuple(package("core", f"{number}.0.0") for number in range(16)))
        self.refuses(AlreadyPublished, works, "publish", package("core", "3.0.0"))
        self.refuses(BadPackages, works, "publish", package("core", "3.0.0", "core *"))
        self.refuses(TooMany, works, "publish", package("core", "16.0.0"))
        works.withdraw("core", "3.0.0")
        self.refuses(AlreadyPublished, works, "publish", package("core", "3.0.0"))


class Withdrawing(Case):
    def test_it_gives_the_number_of_packages(self):
        works = works_with(PLUGS)
        self.assertEqual(works.withdraw("plug", "1.0.0"), 3)
        self.assertEqual(works.withdraw("core", "1.0.0"), 2)
        self.assertEqual(works.packages(), (PLUGS[1], PLUGS[3]))

    def test_no_package(self):
        works = works_with(CORES)
        for name, version in (("core", "3.0.0"), ("plug", "1.0.0"), ("core", "1.0"), ("", ""), ("1.0.0", "core"),
                              (None, None), (HostileText("core"), "1.0.0"), ("core", Hostile()), (CORES[0], "1.0.0"),
                              ("core", ["1.0.0"]), (["core"], "1.0.0"), ("core", 1)):
            self.refuses(NotPublished, works, "withdraw", name, version)
        self.refuses(NotPublished, Works(), "withdraw", "core", "1.0.0")

    def test_twice(self):
        works = works_with(CORES)
        works.withdraw("core", "1.0.0")
        self.refuses(NotPublished, works, "withdraw", "core", "1.0.0")

    def test_what_is_installed_stays(self):
        works = works_with(PLUGS, "left *, core *")
        works.install(0)
        before = (works.shelves, works.locks, works.entries())
        works.withdraw("core", "2.0.0")
        self.assertEqual((works.shelves, works.locks, works.entries()), before)
        self.assertEqual(works.follow(0, ("core",)), ("core", "2.0.0"))
        self.assertEqual(works.collect(), 0)
        self.assertEqual(works.status(0)[3], 1)
        self.assertEqual(works.install(0), ("left", 0))
        self.assertEqual(works.follow(0, ("core",)), ("core", "1.0.0"))


class Dependencies(Case):
    def test_added_set_and_removed(self):
        works = Works()
        a, m, z = ("a", "^1.0.0"), ("m", "~2.0.0"), ("z", "1.0.0 || *")
        self.assertEqual(works.set_dependency(1, "m", "*"), (("m", "*"),))
        self.assertEqual(works.set_dependency(1, *a), (a, ("m", "*")))
        self.assertEqual(works.set_dependency(1, *z), (a, ("m", "*"), z))
        self.assertEqual(works.set_dependency(1, *m), (a, m, z))
        self.assertEqual(works.projects, ((), (a, m, z), ()))
        self.assertEqual(works.set_dependency(1, "a", None), (m, z))
        self.assertEqual(works.set_dependency(1, "z", None), (m,))
        self.assertEqual(works.set_dependency(1, "m", None), ())
        self.assertEqual(works.projects, ((), (), ()))

    def test_each_project_has_its_own(self):
        works = Works()
        for number, name in enumerate("cab"):
            works.set_dependency(number, name, "*")
        self.assertEqual(works.projects, ((("c", "*"),), (("a", "*"),), (("b", "*"),)))

    def test_by_name(self):
        works = Works()
        for name in ("b", "a1", "ab", "a-", "a", "c"):
            works.set_dependency(0, name, "*")
        self.assertEqual([name for name, _ in works.projects[0]], ["a", "a-", "a1", "ab", "b", "c"])

    def test_the_same_once_more(self):
        works = works_with((), "a *")
        self.assertEqual(works.set_dependency(0, "a", "*"), (("a", "*"),))

    def test_what_is_no_name_or_no_range(self):
        works = works_with((), "a *")
        for name in ("", "A", "1a", "a_", "abcdefghijklm", None, 1, True, ["a"], ("a",), HostileText("a"), Hostile()):
            self.refuses(BadProject, works, "set_dependency", 0, name, "*")
            self.refuses(BadProject, works, "set_dependency", 0, name, "^")
        for wanted in ("", "^1", "* ||*", "1.0", 1, True, False, ["*"], ("*",), HostileText("*"), Hostile(), {}):
            self.refuses(BadProject, works, "set_dependency", 0, "a", wanted)
            self.refuses(BadProject, works, "set_dependency", 0, "b", wanted)

    def test_at_most_six(self):
        works = works_with((), "a *, b *, c *, d *, e *, f *")
        self.refuses(TooMany, works, "set_dependency", 0, "g", "*")
        self.refuses(BadProject, works, "set_dependency", 0, "g", "x")
        self.assertEqual(len(works.set_dependency(0, "f", "^1.0.0")), 6)
        self.assertEqual(len(works.set_dependency(1, "g", "*")), 1)
        works.set_dependency(0, "a", None)
        self.assertEqual(len(works.set_dependency(0, "g", "*")), 6)

    def test_no_such_dependency(self):
        works = works_with((), "a *", "b *")
        for number, name in ((0, "b"), (1, "a"), (2, "a"), (0, ""), (0, "A"), (0, None), (0, HostileText("a"))):
            self.refuses(NoSuchDependency, works, "set_dependency", number, name, None)

    def test_no_lock_and_no_shelf_changes(self):
        works = works_with(PLUGS, "left *, core *")
        works.install(0)
        before = (works.locks, works.shelves, works.entries())
        works.set_dependency(0, "core", None)
        works.set_dependency(0, "plug", "*")
        self.assertEqual((works.locks, works.shelves, works.entries()), before)


class Updating(Case):
    def test_a_lock_without_the_entries_of_a_name(self):
        works = works_with(CORES[:1] + (package("a", "1.0.0", "core ^1.0.0"),), "a *, core *")
        kept = (("a", "*", "1.0.0"), ("core", "*", "1.0.0"), ("core", "^1.0.0", "1.0.0"))
        self.assertEqual(works.update(0, ()), kept)
        for row in (package("core", "1.5.0"), package("core", "2.0.0"), package("a", "1.1.0", "core ^1.0.0")):
            works.publish(row)
        for names in ((), ("b",), ("cor", "")):
            self.assertEqual(works.update(0, names), kept)
        self.assertEqual(works.update(0, ("core",)),
                         (("a", "*", "1.0.0"), ("core", "*", "2.0.0"), ("core", "^1.0.0", "1.5.0")))
        self.assertEqual(works.update(0, ("a", "b")),
                         (("a", "*", "1.1.0"), ("core", "*", "2.0.0"), ("core", "^1.0.0", "1.5.0")))
        self.assertEqual(works.locks, (works.update(0, ()), (), ()))

    def test_several_names(self):
        works = works_with((package("a", "1.0.0"), package("b", "1.0.0"), package("c", "1.0.0")), "", "a *, b *, c *")
        works.update(1, ())
        for name in "abc":
            works.publish(package(name, "2.0.0"))
        self.assertEqual(works.update(1, ("c", "a")), (("a", "*", "2.0.0"), ("b", "*", "1.0.0"), ("c", "*", "2.0.0")))

    def test_a_project_without_dependencies(self):
        works = works_with(CORES, "core *")
        works.update(0, ())
        works.set_dependency(0, "core", None)
        self.assertEqual((works.update(0, ()), works.locks), ((), ((), (), ())))

    def test_no_version(self):
        works = works_with(CORES + (package("a", "1.0.0", "gone ~1.0.0"),), "core *, z *", "a *", "core ^3.0.0")
        error = self.refuses(NoVersion, works, "update", 0, ("core",))
        self.assertEqual((error.name, error.wanted), ("z", "*"))
        error = self.refuses(NoVersion, works, "update", 1, ())
        self.assertEqual((error.name, error.wanted), ("gone", "~1.0.0"))
        error = self.refuses(NoVersion, works, "update", 2, ())
        self.assertEqual((error.name, error.wanted), ("core", "^3.0.0"))

    def test_nothing_is_installed_and_occurrences_are_not_looked_at(self):
        works = works_with(PLUGS[:3], "plug *")
        self.assertEqual(works.update(0, ()), (("plug", "*", "1.0.0"),))
        self.assertEqual((works.shelves, works.entries()), ((None, None, None), ()))
        self.refuses(MissingPeer, works, "install", 0)


class Following(Case):
    def test_dependencies_and_peers(self):
        works = works_with(PLUGS, "left *, core *, plug *")
        works.install(0)
        for names, package_of in ((("left",), ("left", "1.0.0")), (("core",), ("core", "2.0.0")),
                                  (("left", "core"), ("core", "1.0.0")), (("left", "plug"), ("plug", "1.0.0")),
                                  (("left", "plug", "core"), ("core", "1.0.0")), (("plug", "core"), ("core", "2.0.0"))):
            self.assertEqual(works.follow(0, names), package_of)

    def test_round_a_ring(self):
        works = works_with((package("a", "1.0.0", "", "b *"), package("b", "1.0.0", "", "a *")), "", "", "a *, b *")
        works.install(2)
        self.assertEqual(works.follow(2, ("a", "b") * 50), ("b", "1.0.0"))
        self.assertEqual(works.follow(2, ("a", "b") * 50 + ("a",)), ("a", "1.0.0"))

    def test_what_is_not_there(self):
        works = works_with(PLUGS, "left *, core *, plug *")
        works.install(0)
        for names in (("nowhere",), ("left", "left"), ("core", "core"), ("left", "plug", "plug"), ("left", "x", "core"),
                      ("",), ("x", "left")):
            self.assertIsNone(works.follow(0, names))

    def test_no_names(self):
        works = works_with(PLUGS, "left *")
        works.install(0)
        self.assertIsNone(works.follow(0, ()))

    def test_nothing_installed(self):
        works = works_with(PLUGS, "left *")
        self.assertIsNone(works.follow(0, ("left",)))
        works.install(0, most=6)
        self.assertIsNone(works.follow(0, ("left",)))
        works.install(0, most=1)
        self.assertEqual(works.follow(0, ("left",)), ("left", "1.0.0"))
        self.assertIsNone(works.follow(1, ("left",)))
        self.assertIsNone(works.follow(1, ()))

    def test_the_installed_shelf_not_the_dependencies(self):
        works = works_with(PLUGS, "left *, core *")
        works.install(0)
        works.set_dependency(0, "core", "1.0.0")
        works.set_dependency(0, "plug", "*")
        self.assertEqual(works.follow(0, ("core",)), ("core", "2.0.0"))
        self.assertIsNone(works.follow(0, ("plug",)))


class Status(Case):
    def test_ahead_of_an_installation_and_behind_it(self):
        works = works_with(PLUGS, "left *, core *")
        project = (("core", "*"), ("left", "*"))
        lock = (("core", "*", "2.0.0"), ("core", "^1.0.0", "1.0.0"), ("left", "*", "1.0.0"), ("plug", "*", "1.0.0"))
        shelf = build(PLUGS, project, lock)
        self.assertEqual(works.status(0), (project, (), None, 9))
        works.install(0, most=3)
        self.assertEqual(works.status(0), (project, lock, None, 6))
        works.install(0)
        self.assertEqual(works.status(0), (project, lock, shelf, 0))
        works.set_dependency(0, "core", None)
        self.assertEqual(works.status(0), ((("left", "*"),), lock, shelf, 1))
        self.assertEqual(works.status(1), ((), (), None, 1))

    def test_the_present_lock(self):
        works = works_with(CORES[:1], "core *")
        works.update(0, ())
        works.publish(CORES[1])
        self.assertEqual(works.status(0), ((("core", "*"),), (("core", "*", "1.0.0"),), None, 3))
        works.withdraw("core", "1.0.0")
        self.assertEqual(works.status(0), ((("core", "*"),), (("core", "*", "1.0.0"),), None, 3))
        self.assertEqual(works.locks[0], (("core", "*", "1.0.0"),))

    def test_it_changes_nothing(self):
        works = works_with(PLUGS, "left *, core *")
        before = all_of(works)
        works.status(0)
        self.assertEqual(all_of(works), before)

    def test_the_errors_of_an_installation(self):
        ring = (package("a", "1.0.0", "b *"), package("b", "1.0.0", "a *"))
        works = works_with(PLUGS + ring, "a *", "plug *", "z *")
        self.assertEqual(self.refuses(Cycle, works, "status", 0).path, ("a", "b", "a"))
        self.assertEqual(self.refuses(MissingPeer, works, "status", 1).path, ("plug", "core"))
        self.assertEqual(self.refuses(NoVersion, works, "status", 2).name, "z")
        works = works_with(CORES + (package("plug", "1.0.0", "", "core ^2.0.0"),), "plug *, core 1.0.0")
        self.assertEqual(self.refuses(InvalidPeer, works, "status", 0).path, ("plug", "core"))
        works = works_with(ladder(), "c1 *, c2 *, c3 *")
        self.refuses(TooMany, works, "status", 0)


class Entries(Case):
    def test_by_name_by_version_incomplete_ones_first(self):
        versions = ("9.0.0", "10.0.0", "9.0.10", "9.0.9")
        works = works_with(tuple(package("core", version) for version in versions) +
                           (package("a", "1.0.0"), package("z", "1.0.0")), "z *, a *, core 10.0.0", "core 9.0.0",
                           "core 9.0.10")
        works.install(0)
        works.install(1, (False,))
        works.install(2, most=1)
        works.set_dependency(2, "core", "9.0.9")
        works.install(2)
        self.assertEqual(works.entries(), (
            ("a", "1.0.0", True), ("core", "9.0.0", False), ("core", "9.0.9", True), ("core", "9.0.10", False),
            ("core", "10.0.0", True), ("z", "1.0.0", True)))
        self.assertEqual(len(works), 6)

    def test_several_of_one_package(self):
        works = works_with(PLUGS, "left *, core *, plug *")
        works.install(0, (True, True, False))
        works.install(1)
        self.assertEqual(works.entries(), (("core", "2.0.0", True), ("left", "1.0.0", True), ("plug", "1.0.0", False)))
        works.set_dependency(1, "left", "*")
        works.install(1)
        self.assertEqual(works.entries(), (
            ("core", "1.0.0", True), ("core", "2.0.0", True), ("left", "1.0.0", True), ("plug", "1.0.0", False),
            ("plug", "1.0.0", True)))

    def test_complete_is_true_or_false(self):
        works = works_with(PLUGS, "left *, core *, plug *")
        works.install(0, (1, 0))
        self.assertTrue(all(type(complete) is bool for _, _, complete in works.entries()))


class Collecting(Case):
    def test_what_no_installed_shelf_has(self):
        works = works_with(PLUGS, "left *, core *, plug *", "core *")
        works.install(0)
        works.install(1)
        self.assertEqual((works.collect(), len(works)), (0, 5))
        works.set_dependency(0, "left", None)
        self.assertEqual((works.collect(), len(works)), (0, 5))
        works.install(0)
        self.assertEqual((works.collect(), works.entries()), (3, (("core", "2.0.0", True), ("plug", "1.0.0", True))))
        self.assertEqual(works.collect(), 0)

    def test_entries_that_another_project_shares_stay(self):
        works = works_with(PLUGS, "left *, core *", "left *", "plug *, core 1.0.0")
        for number in range(3):
            works.install(number)
        self.assertEqual(len(works), 4)
        for name in ("left", "core"):
            works.set_dependency(0, name, None)
        works.install(0)
        self.assertEqual(works.collect(), 1)
        works.set_dependency(1, "left", None)
        works.install(1)
        self.assertEqual((works.collect(), works.entries()), (1, (("core", "1.0.0", True), ("plug", "1.0.0", True))))

    def test_incomplete_ones(self):
        works = works_with(PLUGS, "left *, core *")
        works.install(0, most=5)
        self.assertEqual(len(works), 3)
        self.assertEqual((works.collect(), works.entries()), (3, ()))
        self.assertEqual(works.install(0), ("left", 0))
        self.assertEqual(works.collect(), 0)

    def test_an_empty_disk(self):
        self.assertEqual(Works().collect(), 0)

    def test_nothing_else_changes(self):
        works = works_with(PLUGS, "left *, core *")
        works.install(0)
        works.set_dependency(0, "left", None)
        before = (works.projects, works.locks, works.shelves, works.packages())
        works.collect()
        self.assertEqual((works.projects, works.locks, works.shelves, works.packages()), before)


class Trials(Case):
    def changed(self, works):
        """Make every change that there is."""
        works.publish(package("new", "1.0.0"))
        works.withdraw("core", "2.0.0")
        works.set_dependency(0, "plug", "*")
        works.set_dependency(1, "new", "*")
        works.update(0, ("core",))
        works.install(0)
        works.install(1, (False,))
        works.collect()

    def test_the_value_is_the_works(self):
        works = works_with(PLUGS, "left *, core *")
        with works.tried() as same:
            self.assertIs(same, works)
        with works.tried():
            pass

    def test_all_is_as_it_was(self):
        works = works_with(PLUGS, "left *, core *")
        works.install(0)
        before = all_of(works)
        with works.tried() as same:
            self.changed(same)
            self.assertNotEqual(all_of(works), before)
            self.assertEqual(works.follow(0, ("plug", "core")), ("core", "1.0.0"))
        self.assertEqual(all_of(works), before)
        self.assertEqual(works.publish(package("new", "1.0.0", "core *")), 5)
        self.changed_once_more(works)

    def changed_once_more(self, works):
        """Works go on from where they were."""
        self.assertEqual(works.withdraw("core", "2.0.0"), 4)
        self.assertEqual(works.status(0)[3], 1)
        self.assertEqual(works.install(0), ("left", 0))

    def test_it_ends_by_an_error(self):
        works = works_with(PLUGS, "left *, core *")
        before = all_of(works)
        with self.assertRaises(KeyError):
            with works.tried() as same:
                self.changed(same)
                raise KeyError("why")
        self.assertEqual(all_of(works), before)
        with self.assertRaises(AlreadyPublished):
            with works.tried() as same:
                self.changed(same)
                same.publish(CORES[0])
        self.assertEqual(all_of(works), before)

    def test_as_they_were_when_the_trial_was_made(self):
        works = works_with(PLUGS, "left *, core *")
        before = all_of(works)
        trial = works.tried()
        works.install(0)
        with trial:
            self.assertEqual(works.follow(0, ("core",)), ("core", "2.0.0"))
        self.assertEqual(all_of(works), before)

    def test_within_another_one(self):
        works = works_with(PLUGS, "left *, core *")
        before = all_of(works)
        with works.tried():
            works.install(0)
            between = all_of(works)
            with works.tried():
                self.changed(works)
            self.assertEqual(all_of(works), between)
            with self.assertRaises(ZeroDivisionError), works.tried():
                self.changed(works)
                raise ZeroDivisionError
            self.assertEqual(all_of(works), between)
        self.assertEqual(all_of(works), before)

    def test_several_one_after_the_other(self):
        works = works_with(PLUGS, "left *, core *")
        trial = works.tried()
        before = all_of(works)
        for _ in range(2):
            with trial as same:
                self.changed(same)
            self.assertEqual(all_of(works), before)

    def test_leaving_a_function_ends_it(self):
        works = works_with(PLUGS, "left *, core *")

        def told():
            with works.tried() as same:
                return same.install(0, most=4)
        before = all_of(works)
        self.assertEqual(told(), ("left", 5))
        self.assertEqual(all_of(works), before)

    def test_a_package_published_in_it_may_be_another_one_later(self):
        works = works_with((), "a *")
        with works.tried():
            works.publish(package("a", "1.0.0", "b *"))
            works.publish(package("b", "1.0.0"))
            works.install(0)
            self.assertEqual(len(works), 2)
        self.assertEqual(works.publish(package("a", "1.0.0")), 1)
        self.assertEqual((works.install(0), works.entries()), (("left", 0), (("a", "1.0.0", True),)))


class Foreseeing(Case):
    def test_it_tells_what_an_installation_would_give_and_changes_nothing(self):
        works = works_with(PLUGS, "left *, core *")
        for outcomes, most in (((), 1000), ((), 0), ((), 1), ((), 4), ((False,), 1000), ((True, False), 1000),
                               ((False,), 1), ((False,), 2), ((True, True, True, False), 1000), ((True,) * 10, 9)):
            before = all_of(works)
            told = works.foresee(0, outcomes, most=most)
            self.assertEqual(all_of(works), before)
            with works.tried():
                self.assertEqual(works.install(0, outcomes, most=most), told)
        self.assertEqual(works.foresee(0), ("left", 0))
        self.assertEqual(works.foresee(0, (False,)), ("failed", "core", "2.0.0"))
        self.assertEqual(works.foresee(0, most=2), ("left", 7))

    def test_it_raises_the_errors(self):
        ring = (package("a", "1.0.0", "b *"), package("b", "1.0.0", "a *"))
        works = works_with(PLUGS + ring, "a *", "plug *", "z *")
        self.refuses(Cycle, works, "foresee", 0)
        self.refuses(MissingPeer, works, "foresee", 1, (), most=0)
        self.refuses(NoVersion, works, "foresee", 2)


if __name__ == "__main__":
    unittest.main()
