"""Points 13, 14, 16 and 17 and the interface of peershelf.shelves but for is_valid."""

import itertools
import random
import unittest

from peershelf.errors import BadLock, BadPackages, BadProject, Cycle, MissingPeer, NoSuchPath, NotLocked, TooMany
from peershelf.occurrences import View
from peershelf.shelves import build, duplicates, is_valid, shelf_indices, tell_apart
from tests.plain import PlainView, plain_chain, plain_instances, plain_shelf, same_instance
from tests.support import CheckedCase, Hostile, HostileText, HostileTuple, not_checkable, package, wishes
from tests.worlds import drawn_fold, drawn_world, good_worlds, ladder, lock_of, tree_shelf

CORES = (package("core", "1.0.0"), package("core", "2.0.0"))


def world(packages, project):
    """Packages, a project in short, and the lock to which it resolves."""
    return packages, wishes(project), lock_of(packages, wishes(project))


class Sharing(unittest.TestCase):
    """Which occurrences are of one instance, and how many instances a version has."""

    def instances(self, packages, project):
        """For each index of an instance its occurrences, as texts."""
        found = {}
        for path, index in shelf_indices(*world(packages, project)):
            found.setdefault(index, []).append("/".join(path))
        return [found[index] for index in range(len(found))]

    def test_without_peers_each_package_has_one_instance(self):
        groups = self.instances(ladder(), "c1 *, c2 *, c5 *, c8 *")
        self.assertEqual([{path[-2:] for path in group} for group in groups],
                         [{name} for name in ("c1", "c2", "c5", "c8", "c3", "c4", "c6", "c7")])
        self.assertEqual(sum(len(group) for group in groups), 200)

    def test_one_version_in_several_instances_because_of_a_peer(self):
        packages = CORES + (package("left", "1.0.0", "core ^1.0.0, plug *"), package("plug", "1.0.0", "", "core *"))
        self.assertEqual(self.instances(packages, "left *, core *, plug *"),
                         [["core"], ["left"], ["plug"], ["left/core"], ["left/plug"]])

    def test_the_same_peer_is_no_reason(self):
        packages = CORES + (package("left", "1.0.0", "core ^1.0.0, plug *"), package("plug", "1.0.0", "", "core *"))
        self.assertEqual(self.instances(packages, "left *, core 1.0.0, plug *"),
                         [["core", "left/core"], ["left"], ["plug", "left/plug"]])

    def test_because_of_a_peer_of_a_dependency(self):
        packages = CORES + (package("left", "1.0.0", "core ^1.0.0, wrap *"), package("plug", "1.0.0", "", "core *"),
                            package("wrap", "1.0.0", "plug *", "core *"))
        self.assertEqual(self.instances(packages, "left *, core *, wrap *"), [
            ["core"], ["left"], ["wrap"], ["left/core"], ["left/wrap"], ["wrap/plug"], ["left/wrap/plug"]])

    def test_because_of_a_peer_of_a_peer(self):
        packages = CORES + (package("a", "1.0.0", "", "b *"), package("b", "1.0.0", "", "core *"),
                            package("left", "1.0.0", "core ^1.0.0, a *, b *"))
        self.assertEqual(self.instances(packages, "left *, core *, a *, b *"),
                         [["a"], ["b"], ["core"], ["left"], ["left/a"], ["left/b"], ["left/core"]])

    def test_because_of_a_link_that_leads_round_in_a_ring(self):
        packages = CORES + (package("a", "1.0.0", "", "b *"), package("b", "1.0.0", "", "c *"),
                            package("c", "1.0.0", "", "a *, core *"),
                            package("left", "1.0.0", "core ^1.0.0, a *, b *, c *"))
        self.assertEqual(self.instances(packages, "left *, core *, a *, b *, c *"), [
            ["a"], ["b"], ["c"], ["core"], ["left"], ["left/a"], ["left/b"], ["left/c"], ["left/core"]])

    def test_occurrences_that_look_unlike_but_are_the_same(self):
        # The b of right has the a of the project as its peer, whose peer is another b: round and round they are alike.
        packages = (package("a", "1.0.0", "", "b *"), package("b", "1.0.0", "", "a *"),
                    package("left", "1.0.0", "a *, b *"), package("right", "1.0.0", "b *", "a *"))
        self.assertEqual(self.instances(packages, "left *, right *, a *, b *"),
                         [["a", "left/a"], ["b", "left/b", "right/b"], ["left"], ["right"]])

    def test_a_ring_that_is_not_quite_alike(self):
        packages = (package("a", "1.0.0", "", "b *"), package("b", "1.0.0", "", "a *"),
                    package("b", "2.0.0", "", "a *"), package("right", "1.0.0", "b 1.0.0", "a *"))
        self.assertEqual(self.instances(packages, "right *, a *, b 1.0.0"), [["a"], ["b", "right/b"], ["right"]])
        self.assertEqual(self.instances(packages, "right *, a *, b 2.0.0"), [["a"], ["b"], ["right"], ["right/b"]])

    def test_links_that_look_unlike_lead_to_one_instance(self):
        packages = CORES + (package("left", "1.0.0", "core 2.0.0, plug *"), package("plug", "1.0.0", "", "core *"),
                            package("right", "1.0.0", "plug *", "core *"))
        self.assertEqual(self.instances(packages, "right *, left *, core *"),
                         [["core", "left/core"], ["left"], ["right"], ["left/plug", "right/plug"]])

    def test_an_instance_that_sees_its_own_dependent(self):
        packages = CORES + (package("host", "1.0.0", "plug *", "core *"), package("plug", "1.0.0", "", "host *"),
                            package("left", "1.0.0", "core ^1.0.0, host *"))
        self.assertEqual(self.instances(packages, "left *, core *, host *"), [
            ["core"], ["host"], ["left"], ["host/plug"], ["left/core"], ["left/host"], ["left/host/plug"]])


class Numbering(unittest.TestCase):
    def test_an_empty_project(self):
        self.assertEqual(build((), (), ()), ((), ()))
        self.assertEqual((shelf_indices((), (), ()), duplicates((), (), ())), ((), ()))

    def test_one_shelf_in_full(self):
        packages = CORES + (package("left", "1.0.0", "plug *, core ^1.0.0"), package("plug", "1.0.0", "", "core *"))
        self.assertEqual(build(*world(packages, "plug *, left *, core *")), (
            (("core", 0), ("left", 1), ("plug", 2)),
            (("core", "2.0.0", (), ()),
             ("left", "1.0.0", (("core", 3), ("plug", 4)), ()),
             ("plug", "1.0.0", (), (("core", 0),)),
             ("core", "1.0.0", (), ()),
             ("plug", "1.0.0", (), (("core", 3),)))))

    def test_dependencies_and_peers_stand_apart(self):
        packages = (package("m", "1.0.0", "z *, c *", "y *, b *"), package("z", "1.0.0"), package("c", "1.0.0"),
                    package("y", "1.0.0"), package("b", "1.0.0"))
        self.assertEqual(build(*world(packages, "y *, m *, b *")), (
            (("b", 0), ("m", 1), ("y", 2)),
            (("b", "1.0.0", (), ()), ("m", "1.0.0", (("c", 3), ("z", 4)), (("b", 0), ("y", 2))),
             ("y", "1.0.0", (), ()), ("c", "1.0.0", (), ()), ("z", "1.0.0", (), ()))))

    def test_in_the_order_in_which_they_are_first_reached(self):
        packages = (package("a", "1.0.0", "z *, d *"), package("b", "1.0.0", "c *"), package("c", "1.0.0", "y *"),
                    package("d", "1.0.0", "x *"), package("x", "1.0.0"), package("y", "1.0.0"), package("z", "1.0.0"))
        _, instances = build(*world(packages, "b *, a *"))
        self.assertEqual([row[0] for row in instances], ["a", "b", "d", "z", "c", "x", "y"])

    def test_indices_of_all_occurrences_breadth_first(self):
        packages = (package("a", "1.0.0", "c *"), package("b", "1.0.0", "c *, a *"), package("c", "1.0.0"))
        self.assertEqual(shelf_indices(*world(packages, "b *, a *")), (
            (("a",), 0), (("b",), 1), (("a", "c"), 2), (("b", "a"), 0), (("b", "c"), 2), (("b", "a", "c"), 2)))

    def test_the_order_of_what_is_given_does_not_matter(self):
        packages, project, lock = world(
            CORES + (package("left", "1.0.0", "plug *, core ^1.0.0"), package("plug", "1.0.0", "", "core *")),
            "plug *, left *, core *")
        expected = build(packages, project, lock)
        for some, other in itertools.product(itertools.permutations(packages), itertools.permutations(project)):
            self.assertEqual(build(some, other, lock[::-1]), expected)


class Apart(CheckedCase):
    def chain(self, packages, project, one, other):
        """The chain that tells two occurrences, given as texts, apart."""
        return tell_apart(*world(packages, project), tuple(one.split("/")), tuple(other.split("/")))

    PLUGS = CORES + (package("left", "1.0.0", "core ^1.0.0, plug *, wrap *"), package("plug", "1.0.0", "", "core *"),
                     package("wrap", "1.0.0", "plug *", "core *"))
    PROJECT = "left *, core *, plug *, wrap *"

    def test_other_packages_need_no_link(self):
        self.assertEqual(self.chain(self.PLUGS, self.PROJECT, "left", "plug"), ())
        self.assertEqual(self.chain(self.PLUGS, self.PROJECT, "core", "left/core"), ())

    def test_one_link(self):
        self.assertEqual(self.chain(self.PLUGS, self.PROJECT, "plug", "left/plug"), ("core",))
        self.assertEqual(self.chain(self.PLUGS, self.PROJECT, "left/plug", "plug"), ("core",))

    def test_the_shortest_one_though_another_comes_first(self):
        # Over "plug", a dependency, the two are told apart as well, by a longer chain.
        self.assertEqual(self.chain(self.PLUGS, self.PROJECT, "wrap", "left/wrap"), ("core",))

    def test_none_for_one_instance(self):
        self.assertIsNone(self.chain(self.PLUGS, self.PROJECT, "left/plug", "left/wrap/plug"))
        self.assertIsNone(self.chain(self.PLUGS, self.PROJECT, "plug", "wrap/plug"))
        for path in ("plug", "left/wrap", "core"):
            self.assertIsNone(self.chain(self.PLUGS, self.PROJECT, path, path))

    def test_of_the_shortest_ones_the_first_by_name(self):
        packages = (package("m", "1.0.0", "", "c *, b *, a *"),
                    package("left", "1.0.0", "a 1.0.0, b 1.0.0, c 1.0.0, m *"))
        packages += tuple(package(name, version) for name in "abc" for version in ("1.0.0", "2.0.0"))
        self.assertEqual(self.chain(packages, "left *, m *, a 2.0.0, b 2.0.0, c 2.0.0", "m", "left/m"), ("a",))
        self.assertEqual(self.chain(packages, "left *, m *, a 1.0.0, b 2.0.0, c 2.0.0", "m", "left/m"), ("b",))
        self.assertEqual(self.chain(packages, "left *, m *, a 1.0.0, b 1.0.0, c 2.0.0", "m", "left/m"), ("c",))

    AB = CORES + (package("m", "1.0.0", "", "b *, a *"), package("a", "1.0.0", "", "core *"), package("a", "2.0.0"),
                  package("b", "1.0.0", "", "core *"), package("b", "2.0.0", "", "core *"))

    def test_a_longer_one_that_comes_first_by_name_is_not_taken(self):
        packages = self.AB + (package("left", "1.0.0", "core 1.0.0, a 1.0.0, b 1.0.0, m *"),)
        self.assertEqual(self.chain(packages, "left *, m *, a 1.0.0, b 2.0.0, core 2.0.0", "m", "left/m"), ("b",))

    def test_the_first_name_in_which_they_differ(self):
        packages = self.AB + (package("left", "1.0.0", "core 1.0.0, a 1.0.0, b 1.0.0, m *"),)
        project = "left *, m *, a 1.0.0, b 1.0.0, core 2.0.0"
        self.assertEqual(self.chain(packages, project, "m", "left/m"), ("a", "core"))
        packages = self.AB + (package("left", "1.0.0", "core 1.0.0, a 2.0.0, b 1.0.0, m *"),)
        project = "left *, m *, a 2.0.0, b 1.0.0, core 2.0.0"
        self.assertEqual(self.chain(packages, project, "m", "left/m"), ("b", "core"))

    def test_a_chain_through_several_peers(self):
        packages = CORES + (package("a", "1.0.0", "", "b *"), package("b", "1.0.0", "", "c *"),
                            package("c", "1.0.0", "", "a *, core *"),
                            package("left", "1.0.0", "core ^1.0.0, a *, b *, c *"))
        project = "left *, core *, a *, b *, c *"
        self.assertEqual(self.chain(packages, project, "a", "left/a"), ("b", "c", "core"))
        self.assertEqual(self.chain(packages, project, "b", "left/b"), ("c", "core"))
        self.assertEqual(self.chain(packages, project, "left/c", "c"), ("core",))

    def test_the_dependent_as_a_peer(self):
        packages = CORES + (package("host", "1.0.0", "plug *", "core *"), package("plug", "1.0.0", "", "host *"),
                            package("left", "1.0.0", "core ^1.0.0, host *"))
        project = "left *, core *, host *"
        self.assertEqual(self.chain(packages, project, "host/plug", "left/host/plug"), ("host", "core"))

    def test_no_such_path(self):
        some = world(self.PLUGS, self.PROJECT)
        wrong = [(), ("nowhere",), ("left", "left"), ("left", "plug", "core"), ("core", ""), ("wrap", "plug", "core"),
                 "left", "l", ["left"], ("left", 1), (None,), (("left",),), None, 0, True, b"left", {}, [], Hostile(),
                 HostileText("left"), HostileTuple(("left",)), (HostileText("left"),), (Hostile(),), (["left"],)]
        for path in wrong:
            self.assertIs(self.raises(NoSuchPath, tell_apart, *some, path, ("left",)).path, path)
            self.assertIs(self.raises(NoSuchPath, tell_apart, *some, ("left",), path).path, path)
            self.assertIs(self.raises(NoSuchPath, tell_apart, *some, path, ("other",)).path, path)

    def test_one_ahead_of_the_other(self):
        some = world(self.PLUGS, self.PROJECT)
        self.assertEqual(self.raises(NoSuchPath, tell_apart, *some, ("x",), ("y",)).path, ("x",))
        self.assertEqual(self.raises(NoSuchPath, tell_apart, *some, ("left",), ("y",)).path, ("y",))
        self.assertEqual(self.raises(NoSuchPath, tell_apart, *some, (), ("y",)).path, ())


class Duplicates(unittest.TestCase):
    def test_none(self):
        self.assertEqual(duplicates(*world(ladder(), "c1 *, c2 *")), ())

    def test_one_package_in_two_versions_is_no_duplicate(self):
        packages = CORES + (package("left", "1.0.0", "core 1.0.0"),)
        self.assertEqual(duplicates(*world(packages, "left *, core *")), ())

    def test_the_first_occurrence_of_each_instance(self):
        packages = CORES + (package("left", "1.0.0", "core ^1.0.0, plug *, wrap *"),
                            package("plug", "1.0.0", "", "core *"), package("wrap", "1.0.0", "plug *", "core *"))
        self.assertEqual(duplicates(*world(packages, "left *, core *, wrap *")), (
            ("plug", "1.0.0", (("left", "plug"), ("wrap", "plug"))),
            ("wrap", "1.0.0", (("wrap",), ("left", "wrap")))))

    def test_by_name_then_by_version_as_numbers(self):
        versions = ("10.0.0", "9.0.0", "9.0.10", "9.0.9")
        rows = [package("plug", version, "", "core *") for version in versions]
        users = [package(f"u{at}", "1.0.0", f"plug {version}", "core *") for at, version in enumerate(versions)]
        left = package("left", "1.0.0", "core 1.0.0, u0 *, u1 *, u2 *, u3 *")
        found = duplicates(*world(CORES + tuple(rows + users) + (left,), "left *, core *, u0 *, u1 *, u2 *, u3 *"))
        self.assertEqual([row[:2] for row in found], [
            ("plug", "9.0.0"), ("plug", "9.0.9"), ("plug", "9.0.10"), ("plug", "10.0.0"),
            ("u0", "1.0.0"), ("u1", "1.0.0"), ("u2", "1.0.0"), ("u3", "1.0.0")])
        self.assertEqual(found[0][2], (("u1", "plug"), ("left", "u1", "plug")))

    def test_three_instances_breadth_first(self):
        packages = CORES + (package("core", "3.0.0"), package("plug", "1.0.0", "", "core *"),
                            package("a", "1.0.0", "core 1.0.0, plug *"), package("b", "1.0.0", "core 2.0.0, plug *"),
                            package("c", "1.0.0", "core 1.0.0, plug *"))
        self.assertEqual(duplicates(*world(packages, "c *, b *, a *, core *, plug *")), (
            ("plug", "1.0.0", (("plug",), ("a", "plug"), ("b", "plug"))),))


class Errors(CheckedCase):
    def calls(self):
        return [(build, ()), (shelf_indices, ()), (duplicates, ()), (tell_apart, (("a",), ("nowhere",)))]

    def test_the_errors_of_view(self):
        ring = (package("a", "1.0.0", "b *"), package("b", "1.0.0", "a *"))
        alone = (package("a", "1.0.0", "", "gone *"),)
        locked = (("a", "*", "1.0.0"), ("b", "*", "1.0.0"))
        many = ladder()
        for function, more in self.calls():
            self.raises(Cycle, function, ring, wishes("a *"), locked, *more)
            self.raises(MissingPeer, function, alone, wishes("a *"), locked, *more)
            self.raises(NotLocked, function, ring, wishes("a *"), (), *more)
            self.raises(TooMany, function, many, wishes("c1 *, c2 *, c3 *"), lock_of(many, wishes("c1 *, c2 *, c3 *")),
                        *more)

    def test_bad_values(self):
        for function, more in self.calls():
            for wrong in not_checkable():
                self.raises(BadPackages, function, wrong, wrong, wrong, *more)
                self.raises(BadProject, function, CORES, wrong, wrong, *more)
                self.raises(BadLock, function, CORES, wishes("gone *"), wrong, *more)


class DrawnWorlds(unittest.TestCase):
    def test_the_shelf_is_the_one_of_the_words(self):
        for some in good_worlds(1000, 150):
            view, plain = View(*some), PlainView(*some)
            expected, order = plain_shelf(plain, plain.manifest)
            self.assertEqual(build(*some), expected)
            where = plain_instances(plain)
            self.assertEqual(shelf_indices(*some), tuple((path, order.index(where[path])) for path in view))

    def test_chains_and_duplicates_are_those_of_the_words(self):
        several = 0
        for some in good_worlds(2000, 150):
            plain = PlainView(*some)
            for one, other in itertools.product(plain.paths, repeat=2):
                if len(plain.paths) < 12 or plain.package(one) == plain.package(other):
                    self.assertEqual(tell_apart(*some, one, other), plain_chain(plain, one, other))
            found = {}
            for group in dict.fromkeys(plain_instances(plain).values()):
                found.setdefault(plain.package(group[0]), []).append(group[0])
            expected = [row + (tuple(sorted(firsts, key=plain.paths.index)),)
                        for row, firsts in found.items() if len(firsts) > 1]
            expected.sort(key=lambda row: (row[0], [int(part) for part in row[1].split(".")]))
            self.assertEqual(duplicates(*some), tuple(expected))
            several += len(expected) > 0
        self.assertGreater(several, 10)

    def test_the_shelf_is_valid_and_none_that_is_has_fewer_instances(self):
        for number, some in enumerate(good_worlds(3000, 100)):
            draw, view = random.Random(number), View(*some)
            shelf = build(*some)
            self.assertTrue(is_valid(*some, shelf))
            for other in (tree_shelf(view), drawn_fold(draw, view, lambda one, two: same_instance(view, one, two))):
                self.assertTrue(is_valid(*some, other))
                self.assertLessEqual(len(shelf[1]), len(other[1]))

    def test_the_same_call_gives_the_same(self):
        for seed in range(5000, 5020):
            some = drawn_world(seed)
            for function in (build, shelf_indices, duplicates):
                try:
                    self.assertEqual(function(*some), function(*some))
                except ValueError:
                    pass
