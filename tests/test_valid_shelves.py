"""Point 15: which shelves are valid."""

import random
import unittest

from peershelf.errors import BadLock, BadPackages, BadProject, Cycle, TooMany
from peershelf.occurrences import View
from peershelf.shelves import build, is_valid
from tests.plain import plain_valid, same_instance
from tests.support import (CheckedCase, Hostile, HostileText, nonsense, not_checkable, package, places, replaced,
                           wishes)
from tests.worlds import drawn_fold, good_worlds, ladder, lock_of, tree_shelf, turned

PACKAGES = (package("core", "1.0.0"), package("core", "2.0.0"), package("plug", "1.0.0", "", "core *"),
            package("left", "1.0.0", "core ^1.0.0, plug *"), package("fine", "1.0.0", "plug *", "core ^2.0.0"))
PROJECT = wishes("left *, core *, fine *")
LOCK = lock_of(PACKAGES, PROJECT)

# The shelf of this project, instance by instance, so that a test can spoil one.
LINKS = (("core", 0), ("fine", 1), ("left", 2))
CORE_2 = ("core", "2.0.0", (), ())
FINE = ("fine", "1.0.0", (("plug", 3),), (("core", 0),))
LEFT = ("left", "1.0.0", (("core", 4), ("plug", 5)), ())
PLUG_2 = ("plug", "1.0.0", (), (("core", 0),))
CORE_1 = ("core", "1.0.0", (), ())
PLUG_1 = ("plug", "1.0.0", (), (("core", 4),))
INSTANCES = (CORE_2, FINE, LEFT, PLUG_2, CORE_1, PLUG_1)
SHELF = (LINKS, INSTANCES)


def with_instance(at, instance, shelf=SHELF):
    """A shelf with another instance at an index."""
    return shelf[0], shelf[1][:at] + (instance,) + shelf[1][at + 1:]


class Case(CheckedCase):
    def valid(self, shelf, packages=PACKAGES, project=PROJECT, lock=LOCK):
        self.assertIs(is_valid(packages, project, lock, shelf), True)

    def wrong(self, shelf, packages=PACKAGES, project=PROJECT, lock=LOCK):
        self.assertIs(is_valid(packages, project, lock, shelf), False)


class TheLinksOfTheProject(Case):
    def test_the_shelf_of_the_project(self):
        self.assertEqual(build(PACKAGES, PROJECT, LOCK), SHELF)
        self.valid(SHELF)
        self.valid(((), ()), PACKAGES, (), LOCK)

    def test_a_missing_link(self):
        for at in range(3):
            self.wrong((LINKS[:at] + LINKS[at + 1:], INSTANCES))
        self.wrong(((), INSTANCES))

    def test_one_link_too_many(self):
        self.wrong((LINKS + (("plug", 3),), INSTANCES))
        self.wrong((LINKS, INSTANCES), PACKAGES, wishes("core *, fine *"))

    def test_a_link_to_another_name(self):
        self.wrong(((("core", 2), ("fine", 1), ("left", 2)), INSTANCES))
        self.wrong(((("core", 0), ("fine", 1), ("right", 2)), INSTANCES))

    def test_a_version_that_the_lock_does_not_keep(self):
        self.wrong(((("core", 4), ("fine", 1), ("left", 2)), INSTANCES))
        packages = (package("core", "1.0.0"), package("core", "2.0.0"))
        one = ((("core", 0),), (CORE_1,))
        self.valid(one, packages, wishes("core *"), (("core", "*", "1.0.0"),))
        self.wrong(one, packages, wishes("core *"), (("core", "*", "2.0.0"),))
        self.wrong(one, packages, wishes("core *"), (("core", "^1.0.0", "1.0.0"),))
        self.wrong(one, packages, wishes("core *"), ())

    def test_an_entry_whose_version_is_no_candidate(self):
        self.wrong(((("core", 0),), (CORE_2,)), PACKAGES, wishes("core ^1.0.0"), (("core", "^1.0.0", "2.0.0"),))
        self.wrong(((("core", 0),), (("core", "3.0.0", (), ()),)), PACKAGES, wishes("core *"),
                   (("core", "*", "3.0.0"),))


class EveryInstance(Case):
    def test_it_is_one_of_the_packages(self):
        for instance in (("core", "3.0.0", (), ()), ("cor", "2.0.0", (), ()), ("2.0.0", "core", (), ()),
                         ("core", "2.0", (), ()), ("core", "*", (), ()), ("", "", (), ())):
            self.wrong(with_instance(0, instance))
        for gone in PACKAGES:
            self.wrong(SHELF, tuple(row for row in PACKAGES if row != gone))

    def test_a_missing_link(self):
        self.wrong(with_instance(2, ("left", "1.0.0", (("core", 4),), ())))
        self.wrong(with_instance(2, ("left", "1.0.0", (("plug", 5),), ())))
        self.wrong(with_instance(1, ("fine", "1.0.0", (), (("core", 0),))))

    def test_one_link_too_many(self):
        self.wrong(with_instance(0, ("core", "2.0.0", (("plug", 3),), ())))
        self.wrong(with_instance(1, ("fine", "1.0.0", (("left", 2), ("plug", 3)), (("core", 0),))))

    def test_a_link_to_another_name(self):
        self.wrong(with_instance(2, ("left", "1.0.0", (("core", 5), ("plug", 5)), ())))
        self.wrong(with_instance(2, ("left", "1.0.0", (("core", 4), ("plug", 4)), ())))
        self.wrong(with_instance(2, ("left", "1.0.0", (("cora", 4), ("plug", 5)), ())))

    def test_a_version_that_the_lock_does_not_keep(self):
        packages = (package("core", "1.0.0"), package("core", "1.5.0"), package("left", "1.0.0", "core *"))
        shelf = ((("left", 0),), (("left", "1.0.0", (("core", 1),), ()), CORE_1))
        lock = (("core", "*", "1.0.0"), ("left", "*", "1.0.0"))
        self.valid(shelf, packages, wishes("left *"), lock)
        self.wrong(shelf, packages, wishes("left *"), (("core", "*", "1.5.0"), ("left", "*", "1.0.0")))
        self.wrong(shelf, packages, wishes("left *"), (("left", "*", "1.0.0"),))

    def test_peers_and_dependencies_are_not_exchanged(self):
        self.wrong(with_instance(3, ("plug", "1.0.0", (("core", 0),), ())))
        self.wrong(with_instance(1, ("fine", "1.0.0", (("core", 0), ("plug", 3)), ())))
        self.wrong(with_instance(1, ("fine", "1.0.0", (), (("core", 0), ("plug", 3)))))

    def test_a_missing_peer_and_one_too_many(self):
        self.wrong(with_instance(3, ("plug", "1.0.0", (), ())))
        self.wrong(with_instance(3, ("plug", "1.0.0", (), (("core", 0), ("fine", 1)))))
        self.wrong(with_instance(0, ("core", "2.0.0", (), (("core", 0),))))

    def test_a_peer_of_another_name(self):
        packages = (package("core", "1.0.0"), package("cor", "1.0.0"), package("plug", "1.0.0", "", "core *"))
        project = wishes("core *, cor *, plug *")
        lock = lock_of(packages, project)
        links = (("cor", 0), ("core", 1), ("plug", 2))
        two = (("cor", "1.0.0", (), ()), CORE_1)
        self.valid((links, two + (("plug", "1.0.0", (), (("core", 1),)),)), packages, project, lock)
        self.wrong((links, two + (("plug", "1.0.0", (), (("core", 0),)),)), packages, project, lock)
        self.wrong((links, two + (("plug", "1.0.0", (), (("cor", 0),)),)), packages, project, lock)

    def test_a_peer_out_of_its_range(self):
        for wanted, holds in (("*", True), ("^2.0.0", True), ("^1.0.0", False), ("2.0.1 || ~1.0.0", False)):
            packages = (package("core", "2.0.0"), package("plug", "1.0.0", "", f"core {wanted}"))
            project = wishes("core *, plug *")
            shelf = ((("core", 0), ("plug", 1)), (CORE_2, ("plug", "1.0.0", (), (("core", 0),))))
            self.assertIs(is_valid(packages, project, lock_of(packages, project), shelf), holds)


class WhatIsSeen(Case):
    def test_the_dependency_of_the_dependent_not_that_of_the_project(self):
        self.wrong(with_instance(5, PLUG_2))
        self.wrong(with_instance(3, PLUG_1))

    def test_one_instance_for_two_dependents_that_see_different_ones(self):
        self.wrong(((("core", 0), ("fine", 1), ("left", 2)), (
            CORE_2, FINE, ("left", "1.0.0", (("core", 4), ("plug", 3)), ()), PLUG_2, CORE_1)))

    def test_of_two_instances_of_one_package_the_very_one(self):
        # Both cores are alike; but plug must have the one that its dependent sees.
        packages = (package("core", "1.0.0"), package("plug", "1.0.0", "", "core *"),
                    package("left", "1.0.0", "core *, plug *"))
        project = wishes("left *, core *, plug *")
        lock = lock_of(packages, project)
        links = (("core", 0), ("left", 1), ("plug", 2))
        left = ("left", "1.0.0", (("core", 3), ("plug", 4)), ())
        plugs = [("plug", "1.0.0", (), (("core", at),)) for at in (0, 3)]
        self.valid((links, (CORE_1, left, plugs[0], CORE_1, plugs[1])), packages, project, lock)
        for first, second in ((0, 0), (1, 1), (1, 0)):
            self.wrong((links, (CORE_1, left, plugs[first], CORE_1, plugs[second])), packages, project, lock)

    def test_itself(self):
        packages = (package("host", "1.0.0", "plug *"), package("plug", "1.0.0", "", "host *"))
        project = wishes("host *")
        lock = lock_of(packages, project)
        one = ("host", "1.0.0", (("plug", 1),), ())
        self.valid(((("host", 0),), (one, ("plug", "1.0.0", (), (("host", 0),)))), packages, project, lock)
        other = ("host", "1.0.0", (("plug", 2),), ())
        # The second host is reached by the peer alone.
        self.wrong(((("host", 0),), (one, ("plug", "1.0.0", (), (("host", 2),)), one)), packages, project, lock)
        self.wrong(((("host", 0),), (one, ("plug", "1.0.0", (), (("host", 3),)),
                                     ("plug", "1.0.0", (), (("host", 3),)), other)), packages, project, lock)

    def test_its_own_peer(self):
        packages = (package("core", "1.0.0"), package("a", "1.0.0", "b *", "core *"),
                    package("b", "1.0.0", "", "core *"), package("other", "1.0.0", "core *"))
        project = wishes("a *, core *, other *")
        lock = lock_of(packages, project)
        links = (("a", 0), ("core", 1), ("other", 2))

        def shelf(a_core, b_core):
            return (links, (("a", "1.0.0", (("b", 4),), (("core", a_core),)), CORE_1,
                            ("other", "1.0.0", (("core", 3),), ()), CORE_1, ("b", "1.0.0", (), (("core", b_core),))))
        self.valid(shelf(1, 1), packages, project, lock)
        for a_core, b_core in ((1, 3), (3, 1), (3, 3)):
            self.wrong(shelf(a_core, b_core), packages, project, lock)

    def test_if_nothing_is_seen(self):
        packages = (package("core", "1.0.0"), package("plug", "1.0.0", "", "core *"),
                    package("left", "1.0.0", "plug *"))
        lock = (("core", "*", "1.0.0"), ("left", "*", "1.0.0"), ("plug", "*", "1.0.0"))
        left, plug = ("left", "1.0.0", (("plug", 1),), ()), ("plug", "1.0.0", (), (("core", 2),))
        self.wrong(((("left", 0),), (left, plug, CORE_1)), packages, wishes("left *"), lock)
        self.wrong(((("core", 2), ("left", 0)), (left, plug, CORE_1)), packages, wishes("left *, core *"), lock)
        self.wrong(((("plug", 0),), (("plug", "1.0.0", (), (("core", 1),)), CORE_1)), packages, wishes("plug *"), lock)

    def test_the_project_sees_just_that_to_which_its_links_lead(self):
        packages = (package("core", "1.0.0"), package("plug", "1.0.0", "", "core *"),
                    package("left", "1.0.0", "core *"))
        project = wishes("left *, plug *")
        lock = (("core", "*", "1.0.0"), ("left", "*", "1.0.0"), ("plug", "*", "1.0.0"))
        self.wrong(((("left", 0), ("plug", 1)), (("left", "1.0.0", (("core", 2),), ()),
                                                 ("plug", "1.0.0", (), (("core", 2),)), CORE_1)),
                   packages, project, lock)


class Reached(Case):
    def test_an_instance_that_is_not_reached(self):
        for extra in (CORE_1, CORE_2, PLUG_1, LEFT, FINE):
            self.wrong((LINKS, INSTANCES + (extra,)))
        self.wrong(((), (CORE_1,)), PACKAGES, (), ())

    def test_instances_that_only_reach_one_another(self):
        packages = (package("a", "1.0.0", "b *"), package("b", "1.0.0", "a *"), package("core", "1.0.0"))
        ring = (("a", "1.0.0", (("b", 2),), ()), ("b", "1.0.0", (("a", 1),), ()))
        lock = (("a", "*", "1.0.0"), ("b", "*", "1.0.0"), ("core", "*", "1.0.0"))
        self.wrong(((("core", 0),), (CORE_1,) + ring), packages, wishes("core *"), lock)
        self.valid(((("a", 1), ("core", 0)), (CORE_1,) + ring), packages, wishes("core *, a *"), lock)


class MoreThanNeeded(Case):
    def test_an_instance_twice(self):
        packages = (package("core", "1.0.0"), package("left", "1.0.0", "core *"))
        project = wishes("left *, core *")
        lock = lock_of(packages, project)
        links = (("core", 0), ("left", 1))
        self.valid((links, (CORE_1, ("left", "1.0.0", (("core", 0),), ()))), packages, project, lock)
        self.valid((links, (CORE_1, ("left", "1.0.0", (("core", 2),), ()), CORE_1)), packages, project, lock)

    def test_any_numbering(self):
        draw = random.Random(1)
        for _ in range(20):
            self.valid(turned(draw, SHELF))

    def test_one_for_each_occurrence(self):
        project = wishes("c1 *, c2 *, c5 *, c8 *")
        lock = lock_of(ladder(), project)
        shelf = tree_shelf(View(ladder(), project, lock))
        self.assertEqual(len(shelf[1]), 200)
        self.valid(shelf, ladder(), project, lock)

    def test_a_project_that_has_no_shelf_because_of_a_cycle(self):
        packages = (package("a", "1.0.0", "b *"), package("b", "1.0.0", "a *"))
        project, lock = wishes("a *"), (("a", "*", "1.0.0"), ("b", "*", "1.0.0"))
        self.raises(Cycle, build, packages, project, lock)
        for many in (2, 4, 6, 600):
            ring = tuple((("a", "b")[at % 2], "1.0.0", ((("b", "a")[at % 2], (at + 1) % many),), ())
                         for at in range(many))
            self.valid(((("a", 0),), ring), packages, project, lock)
        self.wrong(((("a", 0),), (("a", "1.0.0", (("b", 0),), ()),)), packages, project, lock)

    def test_a_cycle_with_peers(self):
        packages = (package("a", "1.0.0", "b *", "core *"), package("b", "1.0.0", "a *", "core *"),
                    package("core", "1.0.0"))
        project = wishes("a *, core *")
        lock = lock_of(packages, project)
        links = (("a", 0), ("core", 2))
        a, b = ("a", "1.0.0", (("b", 1),), (("core", 2),)), ("b", "1.0.0", (("a", 0),), (("core", 2),))
        self.valid((links, (a, b, CORE_1)), packages, project, lock)
        self.wrong((links, (a, ("b", "1.0.0", (("a", 0),), (("core", 3),)), CORE_1, CORE_1)), packages, project, lock)

    def test_a_project_that_has_no_shelf_because_of_too_many_occurrences(self):
        project = wishes("c1 *, c2 *, c3 *")
        lock = lock_of(ladder(), project)
        self.raises(TooMany, build, ladder(), project, lock)
        links, instances = build(ladder(), wishes("c1 *, c2 *"), lock)
        third = [index for index, row in enumerate(instances) if row[0] == "c3"]
        self.valid((links + (("c3", third[0]),), instances), ladder(), project, lock)


class NoShelf(Case):
    def test_values_of_other_kinds(self):
        for value in nonsense():
            self.wrong(value)
            self.wrong((value, INSTANCES))
            self.wrong((LINKS, value))

    def test_tuples_too_short_or_too_long(self):
        for value in ((), (LINKS,), (LINKS, INSTANCES, ()), (LINKS, INSTANCES, LOCK), list(SHELF), {1: 1, 2: 2}):
            self.wrong(value)
        self.wrong((list(LINKS), INSTANCES))
        self.wrong((LINKS, list(INSTANCES)))
        for at, row in enumerate(INSTANCES):
            for value in (row[:3], row + ((),), row[:2], (), list(row)):
                self.wrong(with_instance(at, value))
        for link in ((), ("core",), ("core", 0, 0), ["core", 0], "c0"):
            self.wrong(((link,) + LINKS[1:], INSTANCES))

    def test_links_twice_or_out_of_order(self):
        self.wrong(((("core", 0), ("core", 0), ("fine", 1), ("left", 2)), INSTANCES))
        self.wrong(((("fine", 1), ("core", 0), ("left", 2)), INSTANCES))
        self.wrong((LINKS[::-1], INSTANCES))
        self.wrong(with_instance(2, ("left", "1.0.0", (("plug", 5), ("core", 4)), ())))
        self.wrong(with_instance(2, ("left", "1.0.0", (("core", 4), ("core", 4), ("plug", 5)), ())))
        self.wrong(with_instance(3, ("plug", "1.0.0", (), (("core", 0), ("core", 0)))))

    def test_peers_out_of_order(self):
        packages = (package("a", "1.0.0"), package("b", "1.0.0"), package("m", "1.0.0", "", "b *, a *"))
        project = wishes("a *, b *, m *")
        lock = lock_of(packages, project)
        for peers, holds in (((("a", 0), ("b", 1)), True), ((("b", 1), ("a", 0)), False)):
            shelf = ((("a", 0), ("b", 1), ("m", 2)), (("a", "1.0.0", (), ()), ("b", "1.0.0", (), ()),
                                                      ("m", "1.0.0", (), peers)))
            self.assertIs(is_valid(packages, project, lock, shelf), holds)

    def test_indices(self):
        # Counted from the end, -6 is the place of the first of the six instances.
        for index in (-6, -1, 6, 7, 10 ** 40, -10 ** 40, True, False, None, "0", 0.0, (0,), [0], 0j, Hostile()):
            self.wrong(((("core", index), ("fine", 1), ("left", 2)), INSTANCES))
            self.wrong(with_instance(3, ("plug", "1.0.0", (), (("core", index),))))
        self.wrong(((("core", 0), ("fine", True), ("left", 2)), INSTANCES))

    def test_nonsense_in_every_place(self):
        for at in places(SHELF):
            for value in nonsense():
                self.wrong(replaced(SHELF, at, value))

    def test_texts_of_derived_classes(self):
        self.wrong(((("core", 0), (HostileText("fine"), 1), ("left", 2)), INSTANCES))
        self.wrong(with_instance(0, ("core", HostileText("2.0.0"), (), ())))
        self.wrong(with_instance(0, (HostileText("core"), "2.0.0", (), ())))

    def test_the_argument_stays(self):
        shelf = [[["core", 0]], [["core", "2.0.0", [], []]]]
        self.wrong(shelf)
        self.assertEqual(shelf, [[["core", 0]], [["core", "2.0.0", [], []]]])


class BadValues(Case):
    def test_these_errors_alone(self):
        for wrong in not_checkable():
            for shelf in (SHELF, None, Hostile()):
                self.raises(BadPackages, is_valid, wrong, wrong, wrong, shelf)
                self.raises(BadProject, is_valid, PACKAGES, wrong, wrong, shelf)
                self.raises(BadLock, is_valid, PACKAGES, PROJECT, wrong, shelf)


class DrawnShelves(unittest.TestCase):
    def test_it_is_as_the_words_say(self):
        told = {True: 0, False: 0}
        for number, some in enumerate(good_worlds(7000, 120)):
            draw, view = random.Random(number), View(*some)
            shelves = [build(*some), tree_shelf(view)]
            shelves.append(drawn_fold(draw, view, lambda one, other: same_instance(view, one, other)))
            for shelf in shelves:
                shelf = turned(draw, shelf)
                for _ in range(6):
                    other = self.spoilt(draw, shelf)
                    holds = is_valid(*some, other)
                    self.assertIs(holds, plain_valid(*some, other))
                    told[holds] += 1
        self.assertGreater(min(told.values()), 100)

    def spoilt(self, draw, shelf):
        """A shelf in which one index, or one version, is another one; or the same one."""
        spots = [at for at in places(shelf) if len(at) in (3, 5) and at[-1] == 1]
        at = draw.choice(spots)
        value = shelf
        for index in at:
            value = value[index]
        if type(value) is int:
            name = shelf
            for index in at[:-1]:
                name = name[index]
            alike = [index for index, row in enumerate(shelf[1]) if row[0] == name[0]]
            return replaced(shelf, at, draw.choice(alike))
        return replaced(shelf, at, draw.choice(["1.0.0", "2.0.0", "9.0.0", value]))
