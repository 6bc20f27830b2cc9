"""Points 9 to 12 and the interface of peershelf.occurrences."""

import doctest
import unittest

from peershelf.errors import (BadLock, BadPackages, BadProject, Cycle, InvalidPeer, MissingPeer, NotLocked, ShelfError,
                              TooMany)
from peershelf.occurrences import View, occurrences
from tests.plain import PlainView, told
from tests.support import CheckedCase, not_checkable, package, wishes
from tests.worlds import drawn_world, ladder, lock_of

EXAMPLES = '''
>>> from peershelf.occurrences import View
>>> core = (("core", "1.0.0", (), ()), ("core", "2.0.0", (), ()))
>>> left = ("left", "1.0.0", (("core", "^1.0.0"), ("plug", "*")), ())
>>> packages = core + (left, ("plug", "1.0.0", (), (("core", "*"),)))
>>> lock = (("core", "^1.0.0", "1.0.0"), ("left", "*", "1.0.0"), ("plug", "*", "1.0.0"))
>>> view = View(packages, (("left", "*"),), lock)
>>> view.paths, view.sees(("left", "plug"), "core"), view.links(("left", "plug"))
((('left',), ('left', 'core'), ('left', 'plug')), ('left', 'core'), (('core', ('left', 'core')),))
'''


def view_of(packages, project):
    """The view of a project, written in short, with the lock to which it resolves."""
    return View(packages, wishes(project), lock_of(packages, wishes(project)))


class Examples(unittest.TestCase):
    def test_the_example_of_the_interface(self):
        examples = doctest.DocTestParser().get_doctest(EXAMPLES, {}, "occurrences", None, 0)
        result = doctest.DocTestRunner().run(examples)
        self.assertEqual((result.failed, result.attempted), (0, 7))


class Paths(unittest.TestCase):
    def test_an_empty_project(self):
        view = View((), (), ())
        self.assertEqual((view.paths, len(view), list(view), view.links(()), view.sees((), "a")), ((), 0, [], (), None))

    def test_breadth_first_and_by_name(self):
        packages = (package("a", "1.0.0", "d *, c *"), package("b", "1.0.0", "d *, c *"), package("c", "1.0.0", "d *"),
                    package("d", "1.0.0"))
        view = view_of(packages, "d *, b *, a *")
        self.assertEqual(view.paths, (
            ("a",), ("b",), ("d",), ("a", "c"), ("a", "d"), ("b", "c"), ("b", "d"), ("a", "c", "d"), ("b", "c", "d")))

    def test_names_of_unequal_length(self):
        outer, inner = ["a", "a-", "a-a", "a1", "ab"], ["b", "b-1", "b1", "ba", "z"]
        packages = tuple(package(name, "1.0.0", "z *, b *, b-1 *, b1 *, ba *") for name in outer)
        packages += tuple(package(name, "1.0.0") for name in inner)
        view = view_of(packages, "ab *, a1 *, a-a *, a- *, a *")
        expected = [(name,) for name in outer] + [(one, two) for one in outer for two in inner]
        self.assertEqual(list(view.paths), expected)

    def test_iterating_len_and_occurrences(self):
        packages = (package("a", "1.0.0", "c *"), package("b", "1.0.0", "c *"), package("c", "1.0.0"))
        view = view_of(packages, "b *, a *")
        expected = (("a",), ("b",), ("a", "c"), ("b", "c"))
        self.assertEqual((view.paths, tuple(view), len(view)), (expected, expected, 4))
        self.assertEqual(occurrences(packages, wishes("b *, a *"), lock_of(packages, wishes("b *, a *"))), expected)
        self.assertIs(type(view.paths), tuple)
        self.assertEqual(list(view), list(view))

    def test_the_versions_are_those_of_the_lock(self):
        packages = (package("a", "1.0.0", "c ^1.0.0"), package("a", "2.0.0"), package("c", "1.0.0"),
                    package("c", "1.5.0"), package("c", "2.0.0"))
        lock = (("c", "*", "1.5.0"), ("a", "*", "1.0.0"), ("c", "^1.0.0", "1.0.0"), ("a", "^2.0.0", "2.0.0"))
        view = View(packages, wishes("c *, a *"), lock)
        self.assertEqual([view.package(path) for path in view], [("a", "1.0.0"), ("c", "1.5.0"), ("c", "1.0.0")])

    def test_entries_that_keep_nothing_are_no_fault_where_nothing_asks(self):
        packages = (package("a", "1.0.0"),)
        lock = (("a", "*", "1.0.0"), ("b", "*", "7.0.0"), ("a", "^2.0.0", "1.0.0"))
        self.assertEqual(View(packages, wishes("a *"), lock).paths, (("a",),))


class Seeing(unittest.TestCase):
    PACKAGES = (package("core", "1.0.0"), package("core", "2.0.0"), package("plug", "1.0.0", "", "core *"),
                package("left", "1.0.0", "core ^1.0.0, plug *"), package("right", "1.0.0", "plug *, deep *", "core *"),
                package("deep", "1.0.0", "plug *", "core *, right *"))

    def view(self):
        return view_of(self.PACKAGES, "right *, left *, core *")

    def test_its_own_dependency_ahead_of_all(self):
        view = self.view()
        self.assertEqual(view.sees(("left",), "core"), ("left", "core"))
        self.assertEqual(view.sees(("right", "deep"), "plug"), ("right", "deep", "plug"))

    def test_itself(self):
        view = self.view()
        for path in view:
            self.assertEqual(view.sees(path, path[-1]), path)

    def test_what_its_dependent_sees_because_of_a_peer(self):
        view = self.view()
        self.assertEqual(view.sees(("left", "plug"), "core"), ("left", "core"))
        self.assertEqual(view.sees(("right",), "core"), ("core",))
        self.assertEqual(view.sees(("right", "deep"), "right"), ("right",))

    def test_a_peer_that_is_taken_over_several_dependents(self):
        view = self.view()
        for path in (("right", "plug"), ("right", "deep"), ("right", "deep", "plug")):
            self.assertEqual(view.sees(path, "core"), ("core",))
            self.assertIn(("core", ("core",)), view.links(path))

    def test_nothing(self):
        view = self.view()
        self.assertIsNone(view.sees(("left",), "right"))
        self.assertIsNone(view.sees(("left", "plug"), "left"))
        self.assertIsNone(view.sees(("core",), "left"))
        self.assertIsNone(view.sees(("right", "deep"), "left"))
        self.assertIsNone(view.sees(("left",), "nowhere"))

    def test_the_dependents_own_name_is_not_seen_without_a_peer(self):
        packages = (package("a", "1.0.0", "b *"), package("b", "1.0.0"))
        self.assertIsNone(view_of(packages, "a *").sees(("a", "b"), "a"))

    def test_the_project_sees_its_own_dependencies_alone(self):
        view = self.view()
        for name in ("core", "left", "right"):
            self.assertEqual(view.sees((), name), (name,))
        for name in ("plug", "deep", "nowhere"):
            self.assertIsNone(view.sees((), name))

    def test_a_peer_that_is_the_dependent_itself(self):
        packages = (package("host", "1.0.0", "plug *"), package("plug", "1.0.0", "", "host *"))
        view = view_of(packages, "host *")
        self.assertEqual(view.links(("host", "plug")), (("host", ("host",)),))

    def test_a_peer_that_is_a_sibling(self):
        packages = (package("host", "1.0.0", "z *, b *"), package("b", "1.0.0", "", "z *"), package("z", "1.0.0"))
        self.assertEqual(view_of(packages, "host *").links(("host", "b")), (("z", ("host", "z")),))

    def test_the_nearest_one_is_seen(self):
        packages = (package("core", "1.0.0"), package("a", "1.0.0", "b *, core *"),
                    package("b", "1.0.0", "c *", "core *"), package("c", "1.0.0", "", "core *"))
        view = view_of(packages, "a *, core *")
        self.assertEqual(view.sees(("a", "b", "c"), "core"), ("a", "core"))

    def test_peers_in_rings(self):
        packages = (package("a", "1.0.0", "", "b *"), package("b", "1.0.0", "", "c *"),
                    package("c", "1.0.0", "", "a *"))
        view = view_of(packages, "c *, a *, b *")
        self.assertEqual([view.links(path) for path in view],
                         [(("b", ("b",)),), (("c", ("c",)),), (("a", ("a",)),)])
        self.assertEqual([view.sees(path, "a") for path in view], [("a",), None, ("a",)])


class Links(unittest.TestCase):
    PACKAGES = (package("m", "1.0.0", "z *, n *, c *", "y *, b *, a *"), package("z", "1.0.0"), package("n", "1.0.0"),
                package("c", "1.0.0"), package("y", "1.0.0"), package("b", "1.0.0"), package("a", "1.0.0"))

    def test_dependencies_ahead_of_peers_each_by_name(self):
        view = view_of(self.PACKAGES, "m *, y *, a *, b *")
        self.assertEqual(view.links(("m",)), (
            ("c", ("m", "c")), ("n", ("m", "n")), ("z", ("m", "z")), ("a", ("a",)), ("b", ("b",)), ("y", ("y",))))

    def test_those_of_the_project_by_name(self):
        view = view_of(self.PACKAGES, "y *, m *, b *, a *")
        self.assertEqual(view.links(()), (("a", ("a",)), ("b", ("b",)), ("m", ("m",)), ("y", ("y",))))

    def test_an_occurrence_without_any(self):
        self.assertEqual(view_of(self.PACKAGES, "z *").links(("z",)), ())

    def test_each_call_gives_the_same(self):
        view = view_of(self.PACKAGES, "m *, y *, a *, b *")
        self.assertEqual([view.links(path) for path in view], [view.links(path) for path in view])
        self.assertTrue(all(type(view.links(path)) is tuple for path in view))


class Errors(CheckedCase):
    def fails(self, expected, packages, project, lock=None):
        """Whether a View, and occurrences, raise this error with these fields."""
        project = wishes(project)
        lock = lock_of(packages, project) if lock is None else lock
        for function in (View, occurrences):
            with self.assertRaises(ShelfError) as caught:
                function(packages, project, lock)
            self.assertEqual(told(caught.exception), expected)

    def test_the_first_of_the_project_that_is_not_locked(self):
        packages = (package("a", "1.0.0"), package("b", "1.0.0"))
        self.fails(("NotLocked", "b", "^1.0.0"), packages, "z *, b ^1.0.0, a *", (("a", "*", "1.0.0"),))
        self.fails(("NotLocked", "a", "*"), packages, "b *, a *", ())

    def test_what_a_lock_does_not_keep(self):
        packages = (package("a", "1.0.0"), package("a", "2.0.0"))
        for lock in ((("a", "*", "3.0.0"),), (("a", "* || *", "1.0.0"),), (("b", "*", "1.0.0"),)):
            self.fails(("NotLocked", "a", "*"), packages, "a *", lock)
        self.fails(("NotLocked", "a", "^1.0.0"), packages, "a ^1.0.0", (("a", "^1.0.0", "2.0.0"),))

    def test_the_first_of_an_occurrence_that_is_not_locked(self):
        packages = (package("a", "1.0.0", "z ~1.0.0, c *, m ^1.0.0"), package("c", "1.0.0"))
        self.fails(("NotLocked", "m", "^1.0.0"), packages, "a *", (("a", "*", "1.0.0"), ("c", "*", "1.0.0")))

    def test_those_of_the_project_ahead_of_all_occurrences(self):
        packages = (package("a", "1.0.0", "b *", "peer *"),)
        self.fails(("NotLocked", "z", "*"), packages, "a *, z *", (("a", "*", "1.0.0"),))

    def test_a_cycle(self):
        packages = (package("a", "1.0.0", "b *"), package("b", "1.0.0", "c *"), package("c", "1.0.0", "a *"))
        self.fails(("Cycle", ("a", "b", "c", "a")), packages, "a *")
        self.fails(("Cycle", ("b", "c", "a", "b")), packages, "b *")
        self.fails(("Cycle", ("a", "b", "c", "a")), packages, "b *, a *, c *")

    def test_a_cycle_that_does_not_lead_to_its_beginning(self):
        packages = (package("a", "1.0.0", "b *"), package("b", "1.0.0", "c *"), package("c", "1.0.0", "b *"))
        self.fails(("Cycle", ("a", "b", "c", "b")), packages, "a *")

    def test_another_version_is_no_cycle(self):
        packages = (package("a", "1.0.0"), package("a", "2.0.0", "b *"), package("b", "1.0.0", "a ^1.0.0"))
        self.assertEqual(view_of(packages, "a *").paths, (("a",), ("a", "b"), ("a", "b", "a")))

    def test_one_package_beside_itself_is_no_cycle(self):
        packages = (package("a", "1.0.0", "c *"), package("b", "1.0.0", "c *, a *"), package("c", "1.0.0"))
        self.assertEqual(len(view_of(packages, "a *, b *, c *")), 7)

    def test_a_missing_peer(self):
        packages = (package("a", "1.0.0", "b *"), package("b", "1.0.0", "", "core *"), package("core", "1.0.0"))
        self.fails(("MissingPeer", ("a", "b", "core")), packages, "a *, core *")
        self.fails(("MissingPeer", ("b", "core")), packages, "b *")

    def test_a_peer_that_is_only_a_dependency_of_a_sibling_is_missing(self):
        packages = (package("a", "1.0.0", "core *"), package("b", "1.0.0", "", "core *"), package("core", "1.0.0"))
        self.fails(("MissingPeer", ("b", "core")), packages, "a *, b *")

    def test_an_invalid_peer(self):
        packages = (package("a", "1.0.0", "b *, core *"), package("b", "1.0.0", "", "core ^1.0.0"),
                    package("core", "1.0.0"), package("core", "2.0.0"))
        self.fails(("InvalidPeer", ("a", "b", "core")), packages, "a *")
        self.assertEqual(len(view_of(packages, "b *, core ^1.0.0")), 2)
        self.fails(("InvalidPeer", ("b", "core")), packages, "core *, b *")

    def test_a_peer_that_is_the_dependent_itself_may_be_invalid(self):
        packages = (package("host", "2.0.0", "plug *"), package("plug", "1.0.0", "", "host ^1.0.0"))
        self.fails(("InvalidPeer", ("host", "plug", "host")), packages, "host *")

    def test_every_dependent_that_shares_a_peer_has_its_own_range(self):
        packages = (package("a", "1.0.0", "b *", "core *"), package("b", "1.0.0", "c *", "core ^2.0.0"),
                    package("c", "1.0.0", "", "core ~2.1.0"), package("core", "2.0.0"), package("core", "2.1.5"))
        self.assertEqual(len(view_of(packages, "a *, core *")), 4)
        self.fails(("InvalidPeer", ("a", "b", "c", "core")), packages, "a *, core 2.0.0")

    def test_the_first_wrong_peer_by_name(self):
        packages = (package("a", "1.0.0", "", "z *, m ^2.0.0, b *"), package("m", "1.0.0"), package("b", "1.0.0"))
        self.fails(("InvalidPeer", ("a", "m")), packages, "a *, m *, b *")
        self.fails(("MissingPeer", ("a", "b")), packages, "a *, m *")
        self.fails(("MissingPeer", ("a", "m")), packages, "a *, b *")

    def test_cycle_ahead_of_missing_peer_at_one_occurrence(self):
        packages = (package("a", "1.0.0", "b *", "core *"), package("b", "1.0.0", "a *"), package("core", "1.0.0"))
        self.fails(("Cycle", ("a", "b", "a")), packages, "a *, core *")

    def test_a_wrong_peer_ahead_of_a_dependency_that_is_not_locked(self):
        packages = (package("a", "1.0.0", "b *", "core *"), package("core", "1.0.0"))
        self.fails(("MissingPeer", ("a", "core")), packages, "a *", (("a", "*", "1.0.0"),))
        lock = (("a", "*", "1.0.0"), ("core", "*", "1.0.0"))
        self.fails(("NotLocked", "b", "*"), packages, "a *, core *", lock)

    def test_the_first_occurrence_by_name(self):
        packages = (package("a", "1.0.0", "x *"), package("b", "1.0.0", "", "gone *"))
        self.fails(("NotLocked", "x", "*"), packages, "b *, a *", (("a", "*", "1.0.0"), ("b", "*", "1.0.0")))

    def test_the_upper_occurrence_first(self):
        packages = (package("a", "1.0.0", "b *"), package("b", "1.0.0", "", "gone *"),
                    package("c", "1.0.0", "", "lost *"))
        self.fails(("MissingPeer", ("c", "lost")), packages, "a *, c *")

    def test_the_order_of_what_is_given_does_not_matter(self):
        packages = (package("a", "1.0.0", "c *, b *"), package("b", "1.0.0", "", "gone *"),
                    package("c", "1.0.0", "", "lost *"))
        lock = lock_of(packages, wishes("a *"))
        for some in (packages, packages[::-1]):
            self.fails(("MissingPeer", ("a", "b", "gone")), some, "a *", lock[::-1])

    def test_bad_values_ahead_of_the_errors_of_occurrences(self):
        packages = (package("a", "1.0.0", "b *"), package("b", "1.0.0", "a *"))
        for wrong in not_checkable():
            self.raises(BadPackages, View, wrong, wrong, wrong)
            self.raises(BadPackages, View, wrong, wishes("z *"), ())
            self.raises(BadProject, View, packages, wrong, wrong)
            self.raises(BadProject, View, packages, wrong, ())
            self.raises(BadLock, View, packages, wishes("z *"), wrong)
            self.raises(BadLock, occurrences, packages, wishes("a *"), wrong)


class Limit(CheckedCase):
    def lock(self, packages, project):
        return lock_of(packages, wishes(project))

    def many(self, project):
        """The number of occurrences of a project on the ladder."""
        return len(view_of(ladder(), project))

    def test_the_rungs(self):
        self.assertEqual([self.many(f"c{number} *") for number in range(8, 0, -1)], [1, 2, 4, 8, 16, 32, 64, 127])

    def test_199_and_200(self):
        self.assertEqual(self.many("c1 *, c2 *, c5 *"), 199)
        self.assertEqual(self.many("c1 *, c2 *, c5 *, c8 *"), 200)

    def test_201_and_more(self):
        for project in ("c1 *, c2 *, c5 *, c7 *", "c1 *, c2 *, c4 *", "c1 *, c2 *, c3 *, c4 *, c5 *, c6 *"):
            self.raises(TooMany, View, ladder(), wishes(project), self.lock(ladder(), project))

    def chain(self, last, many=7):
        """The ladder, and packages e1, e2, .. of which each depends on the next one, the last one on "bad"."""
        names = [f"e{number}" for number in range(1, many + 1)] + ["bad"]
        return ladder([package(name, "1.0.0", f"{behind} *") for name, behind in zip(names, names[1:])] + [last])

    def test_a_wrong_peer_of_the_200th(self):
        packages = self.chain(package("bad", "1.0.0", "", "gone *"))
        project = "c1 *, c2 *, c8 *, e1 *"
        good = self.chain(package("bad", "1.0.0"))
        self.assertEqual(len(view_of(good, project)), 200)
        self.assertEqual(view_of(good, project).paths[-1][-1], "bad")
        error = self.raises(MissingPeer, View, packages, wishes(project), self.lock(packages, project))
        self.assertEqual(error.path, ("e1", "e2", "e3", "e4", "e5", "e6", "e7", "bad", "gone"))

    def test_what_is_wrong_with_the_201st_is_that_there_are_too_many(self):
        project = "c1 *, c2 *, c7 *, e1 *"
        for last in (package("bad", "1.0.0", "", "gone *"), package("bad", "1.0.0", "e7 *"),
                     package("bad", "1.0.0", "", "c1 ^2.0.0")):
            packages = self.chain(last)
            self.raises(TooMany, View, packages, wishes(project), self.lock(packages, project))
        packages = self.chain(package("bad", "1.0.0", "gone *"))
        lock = tuple((f"{name}", "*", "1.0.0") for name, _, _, _ in packages)
        self.raises(TooMany, View, packages, wishes(project), lock)

    def test_a_wrong_peer_of_a_later_occurrence_beside_more_than_200(self):
        for last, error in ((package("bad", "1.0.0", "", "gone *"), MissingPeer),
                            (package("bad", "1.0.0", "", "e3 ^2.0.0"), InvalidPeer)):
            packages = self.chain(last, 3)
            project = "c1 *, c2 *, c3 *, e1 *"
            caught = self.raises(error, View, packages, wishes(project), self.lock(packages, project))
            self.assertEqual(caught.path[:4], ("e1", "e2", "e3", "bad"))

    def test_a_cycle_and_a_gap_in_the_lock_beside_more_than_200(self):
        project = "c1 *, c2 *, c3 *, e1 *"
        packages = self.chain(package("bad", "1.0.0", "e2 *"), 3)
        error = self.raises(Cycle, View, packages, wishes(project), self.lock(packages, project))
        self.assertEqual(error.path, ("e1", "e2", "e3", "bad", "e2"))
        packages = self.chain(package("bad", "1.0.0", "gone *"), 3)
        lock = tuple((f"{name}", "*", "1.0.0") for name, _, _, _ in packages)
        self.raises(NotLocked, View, packages, wishes(project), lock)

    def test_too_many_ahead_of_a_cycle_far_away(self):
        packages = ladder([package("d", "1.0.0", "c1 *, c2 *, d2 *"), package("d2", "1.0.0", "d3 *"),
                           package("d3", "1.0.0", "d4 *"), package("d4", "1.0.0", "d5 *"),
                           package("d5", "1.0.0", "d *")])
        project = "d *, c1 *, c2 *, c3 *"
        self.raises(Cycle, View, packages, wishes("d *"), self.lock(packages, "d *"))
        self.raises(TooMany, View, packages, wishes(project), self.lock(packages, project))


class DrawnWorlds(unittest.TestCase):
    def test_all_is_as_the_words_say(self):
        seen = set()
        for seed in range(400):
            world = drawn_world(seed)
            plain = PlainView(*world)
            try:
                view = View(*world)
            except ShelfError as error:
                self.assertEqual(told(error), plain.error, seed)
                seen.add(plain.error[0])
                continue
            self.assertIsNone(plain.error, seed)
            self.assertEqual(view.paths, tuple(plain.paths))
            self.assertEqual(view.links(()), plain.links(()))
            for path in view:
                self.assertEqual((view.package(path), view.links(path)), (plain.package(path), plain.links(path)))
                for name in "abcdefgh":
                    self.assertEqual(view.sees(path, name), plain.sees(path, name))
            seen.add("none")
        self.assertEqual(seen, {"none", "NotLocked", "Cycle", "MissingPeer", "InvalidPeer"})
