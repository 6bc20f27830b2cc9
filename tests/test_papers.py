"""Points 18 to 21 and the interface of peershelf.papers."""

import itertools
import random
import unittest

from peershelf.errors import (BadLock, BadPackages, BadProject, Cycle, MissingPeer, NoSuchPath, NotLocked, TooMany)
from peershelf.occurrences import View
from peershelf.papers import (explain_apart, explain_fewest, explain_onto, judge_apart, judge_fewest, judge_onto)
from peershelf.shelves import build, tell_apart
from tests.plain import same_instance
from tests.support import (CheckedCase, Hostile, HostileText, HostileTuple, nonsense, not_checkable, package, places,
                           replaced, wishes)
from tests.worlds import drawn_fold, folded_shelf, good_worlds, ladder, lock_of, tree_shelf, turned

PACKAGES = (package("core", "1.0.0"), package("core", "2.0.0"), package("plug", "1.0.0", "", "core *"),
            package("wrap", "1.0.0", "plug *", "core *"), package("left", "1.0.0", "core ^1.0.0, plug *, wrap *"))
PROJECT = wishes("left *, core *, plug *, wrap *")
LOCK = lock_of(PACKAGES, PROJECT)
WORLD = (PACKAGES, PROJECT, LOCK)

WRAP, PLUG, LEFT, CORE = ("wrap",), ("plug",), ("left",), ("core",)
LEFT_WRAP, LEFT_PLUG, LEFT_CORE = ("left", "wrap"), ("left", "plug"), ("left", "core")
WRAP_PLUG, LEFT_WRAP_PLUG = ("wrap", "plug"), ("left", "wrap", "plug")
NO_PATHS = ((), ("nowhere",), ("left", "left"), ("core", "plug"))

# A ring: a project with valid shelves, but without occurrences.
RING = ((package("a", "1.0.0", "b *"), package("b", "1.0.0", "a *")), wishes("a *"),
        (("a", "*", "1.0.0"), ("b", "*", "1.0.0")))


def ring_shelf(many):
    """A valid shelf of the ring with so many instances."""
    return ((("a", 0),), tuple(
        (("a", "b")[at % 2], "1.0.0", ((("b", "a")[at % 2], (at + 1) % many),), ()) for at in range(many)))


def wrong_papers():
    """Values that are no paper of any kind, whatever it is about; a new list each time."""
    words = ("apart", "same", "fewest", "folds", "onto")
    values = nonsense() + [(), HostileTuple(("apart", ())), ("", ()), ("Apart", ()), ("other", ()), ("apar", ())]
    for word in words:
        values += [word, (word,), [word, ()], (word, (), (), ()), ((), word), (HostileText(word), ()), {word: ()}]
        values += [(word, value) for value in nonsense()] + [(word, (), value) for value in nonsense()]
    return values + [(value, ()) for value in nonsense()]


class Case(CheckedCase):
    def apart(self, taken, one, other, paper, some=WORLD):
        self.assertIs(judge_apart(*some, one, other, paper), taken, paper)

    def fewest(self, taken, shelf, paper, some=WORLD):
        self.assertIs(judge_fewest(*some, shelf, paper), taken)

    def onto(self, taken, shelf, paper, some=WORLD):
        self.assertIs(judge_onto(*some, shelf, paper), taken)


class Apart(Case):
    def test_a_chain_that_tells_them_apart(self):
        self.apart(True, WRAP, LEFT_WRAP, ("apart", ("core",)))
        self.apart(True, PLUG, LEFT_PLUG, ("apart", ("core",)))
        self.apart(True, LEFT_WRAP_PLUG, PLUG, ("apart", ("core",)))

    def test_it_need_not_be_the_shortest(self):
        self.apart(True, WRAP, LEFT_WRAP, ("apart", ("plug", "core")))

    def test_other_packages(self):
        self.apart(True, PLUG, WRAP, ("apart", ()))
        self.apart(True, CORE, LEFT_CORE, ("apart", ()))
        self.apart(True, PLUG, LEFT_WRAP, ("apart", ("core",)))

    def test_a_chain_that_goes_on_behind_different_packages(self):
        packages = (package("a", "1.0.0", "c ^1.0.0"), package("b", "1.0.0", "c ^2.0.0"), package("d", "1.0.0"),
                    package("c", "1.0.0", "d *"), package("c", "2.0.0", "d *"))
        some = (packages, wishes("a *, b *"), lock_of(packages, wishes("a *, b *")))
        self.apart(True, ("a",), ("b",), ("apart", ("c",)), some)
        self.apart(False, ("a",), ("b",), ("apart", ("c", "d")), some)

    def test_chains_that_tell_nothing_apart(self):
        self.apart(False, WRAP, LEFT_WRAP, ("apart", ()))
        self.apart(False, WRAP, LEFT_WRAP, ("apart", ("plug",)))
        self.apart(False, PLUG, WRAP_PLUG, ("apart", ("core",)))
        self.apart(False, PLUG, PLUG, ("apart", ("core",)))

    def test_chains_that_lead_nowhere(self):
        for chain in (("core", "core"), ("plug", "core", "core"), ("plug", "plug"), ("nowhere",), ("",), ("left",)):
            self.apart(False, WRAP, LEFT_WRAP, ("apart", chain))
        # One of them has such a link, the other one has not.
        self.apart(False, WRAP, PLUG, ("apart", ("plug",)))
        self.apart(False, PLUG, WRAP, ("apart", ("plug",)))
        self.apart(False, LEFT, CORE, ("apart", ("core",)))

    def test_what_is_no_chain(self):
        for chain in (["core"], "core", ("c", "o", "r", "e"), (("core",),), ("core", None), ("core", 0), None,
                      {"core": 0}, (HostileText("core"),), HostileTuple(("core",)), (Hostile(),), (["core"],), ({},)):
            self.apart(False, WRAP, LEFT_WRAP, ("apart", chain))

    def test_nonsense_in_every_place(self):
        for at in places(("apart", ("plug", "core"))):
            for value in nonsense():
                self.apart(False, WRAP, LEFT_WRAP, replaced(("apart", ("plug", "core")), at, value))

    def test_what_is_no_paper(self):
        for paper in wrong_papers():
            self.apart(False, WRAP, LEFT_WRAP, paper)
            self.apart(False, WRAP, WRAP, paper)

    def test_a_long_chain(self):
        packages = (package("a", "1.0.0", "", "b *"), package("b", "1.0.0", "", "a *"), package("core", "1.0.0"),
                    package("core", "2.0.0"), package("left", "1.0.0", "a *, b *"))
        some = (packages, wishes("a *, b *, left *"), lock_of(packages, wishes("a *, b *, left *")))
        self.apart(False, ("a",), ("left", "a"), ("apart", ("b", "a") * 5000), some)
        self.apart(True, ("a",), ("left", "b"), ("apart", ()), some)
        self.apart(False, ("a",), ("left", "b"), ("apart", ("b", "a")), some)


class Same(Case):
    PAIRS = ((PLUG, WRAP_PLUG), (CORE, CORE))

    def test_pairs_that_show_it(self):
        self.apart(True, PLUG, WRAP_PLUG, ("same", self.PAIRS))
        self.apart(True, LEFT_PLUG, LEFT_WRAP_PLUG, ("same", ((LEFT_PLUG, LEFT_WRAP_PLUG), (LEFT_CORE, LEFT_CORE))))

    def test_in_any_order_and_twice_and_more_of_them(self):
        self.apart(True, PLUG, WRAP_PLUG, ("same", self.PAIRS[::-1]))
        self.apart(True, PLUG, WRAP_PLUG, ("same", self.PAIRS + self.PAIRS))
        self.apart(True, PLUG, WRAP_PLUG, ("same", self.PAIRS + ((LEFT_CORE, LEFT_CORE), (WRAP_PLUG, PLUG))))
        self.apart(True, WRAP_PLUG, PLUG, ("same", self.PAIRS + ((WRAP_PLUG, PLUG),)))

    def test_an_occurrence_and_itself(self):
        self.apart(True, CORE, CORE, ("same", ((CORE, CORE),)))
        self.apart(True, WRAP, WRAP, ("same", ((WRAP, WRAP), (WRAP_PLUG, WRAP_PLUG), (CORE, CORE))))
        self.apart(False, WRAP, WRAP, ("same", ((WRAP, WRAP), (WRAP_PLUG, WRAP_PLUG))))

    def test_the_pair_of_the_two_is_missing(self):
        self.apart(False, PLUG, WRAP_PLUG, ("same", ()))
        self.apart(False, PLUG, WRAP_PLUG, ("same", ((CORE, CORE),)))
        self.apart(False, PLUG, WRAP_PLUG, ("same", ((PLUG, PLUG), (CORE, CORE))))

    def test_a_pair_behind_it_is_missing(self):
        self.apart(False, PLUG, WRAP_PLUG, ("same", ((PLUG, WRAP_PLUG),)))
        self.apart(False, PLUG, WRAP_PLUG, ("same", ((PLUG, WRAP_PLUG), (LEFT_CORE, LEFT_CORE))))
        # The pair behind a pair that is not needed.
        self.apart(False, PLUG, WRAP_PLUG, ("same", self.PAIRS + ((LEFT_PLUG, LEFT_WRAP_PLUG),)))

    def test_a_pair_behind_a_peer_is_needed(self):
        packages = (package("a", "1.0.0", "", "b *"), package("b", "1.0.0", "", "a *"),
                    package("left", "1.0.0", "a *, b *"))
        some = (packages, wishes("a *, b *, left *"), lock_of(packages, wishes("a *, b *, left *")))
        pairs = ((("a",), ("left", "a")), (("b",), ("left", "b")))
        self.apart(True, ("a",), ("left", "a"), ("same", pairs), some)
        self.apart(False, ("a",), ("left", "a"), ("same", pairs[:1]), some)
        self.apart(False, ("a",), ("left", "a"), ("same", pairs[:1] + ((("b",), ("b",)),)), some)

    def test_a_pair_of_different_packages(self):
        self.apart(False, PLUG, LEFT_PLUG, ("same", ((PLUG, LEFT_PLUG), (CORE, LEFT_CORE))))
        self.apart(False, PLUG, WRAP_PLUG, ("same", self.PAIRS + ((CORE, LEFT_CORE),)))
        self.apart(False, CORE, LEFT_CORE, ("same", ((CORE, LEFT_CORE),)))
        self.apart(False, PLUG, WRAP_PLUG, ("same", self.PAIRS + ((CORE, PLUG),)))

    def test_what_is_no_pair_of_occurrences(self):
        for pair in ((), (CORE,), (CORE, CORE, CORE), ((), ()), (CORE, ()), (("nowhere",), ("nowhere",)), [CORE, CORE],
                     (["core"], ["core"]), ("core", "core"), ("core",), (CORE, None), (None, CORE), {CORE: 1, LEFT: 2},
                     HostileTuple((CORE, CORE)), (CORE, HostileTuple(CORE)), (CORE, (HostileText("core"),)),
                     (CORE, ("core", 1)), (CORE, ("left", "core", "core")), (Hostile(), Hostile())):
            self.apart(False, PLUG, WRAP_PLUG, ("same", self.PAIRS + (pair,)))
            self.apart(False, PLUG, WRAP_PLUG, ("same", (pair,) + self.PAIRS))
        self.apart(False, PLUG, WRAP_PLUG, ("same", list(self.PAIRS)))
        self.apart(False, PLUG, WRAP_PLUG, ("same", set(self.PAIRS)))
        self.apart(False, PLUG, WRAP_PLUG, ("same", dict(self.PAIRS)))

    def test_nonsense_in_every_place(self):
        for at in places(("same", self.PAIRS)):
            for value in nonsense():
                self.apart(False, PLUG, WRAP_PLUG, replaced(("same", self.PAIRS), at, value))


class JudgeApartErrors(Case):
    def test_no_such_path(self):
        for path in NO_PATHS + (None, 1, "left", ["left"], Hostile(), (1,), HostileTuple(("left",))):
            for paper in (("apart", ()), ("same", ()), None, Hostile()):
                self.assertIs(self.raises(NoSuchPath, judge_apart, *WORLD, path, LEFT, paper).path, path)
                self.assertIs(self.raises(NoSuchPath, judge_apart, *WORLD, LEFT, path, paper).path, path)
            self.assertIs(self.raises(NoSuchPath, explain_apart, *WORLD, path, ("other",)).path, path)
            self.assertIs(self.raises(NoSuchPath, explain_apart, *WORLD, LEFT, path).path, path)
        error = self.raises(NoSuchPath, judge_apart, *WORLD, ("x",), ("y",), ("apart", ()))
        self.assertEqual(error.path, ("x",))

    def test_the_errors_of_view_ahead(self):
        alone = (package("a", "1.0.0", "", "gone *"),)
        for arguments in ((("x",), ("y",), None), (("a",), ("a",), ("same", ()))):
            self.raises(Cycle, judge_apart, *RING, *arguments)
            self.raises(NotLocked, judge_apart, RING[0], RING[1], (), *arguments)
            self.raises(MissingPeer, judge_apart, alone, wishes("a *"), RING[2], *arguments)
            project = wishes("c1 *, c2 *, c3 *")
            self.raises(TooMany, judge_apart, ladder(), project, lock_of(ladder(), project), *arguments)
            for wrong in not_checkable():
                self.raises(BadPackages, judge_apart, wrong, wrong, wrong, *arguments)
                self.raises(BadProject, judge_apart, PACKAGES, wrong, wrong, *arguments)
                self.raises(BadLock, judge_apart, PACKAGES, wishes("gone *"), wrong, *arguments)


# Three instances more than are needed: each occurrence has its own.
TREE = tree_shelf(View(*WORLD))
BUILT = build(*WORLD)


class Fewest(Case):
    """The shelf of the project has the instances core 2, left, plug, wrap, core 1, plug, wrap."""

    CHAINS = (("core",), ("plug", "core"))

    def test_the_shelf(self):
        self.assertEqual([row[:2] for row in BUILT[1]], [
            ("core", "2.0.0"), ("left", "1.0.0"), ("plug", "1.0.0"), ("wrap", "1.0.0"), ("core", "1.0.0"),
            ("plug", "1.0.0"), ("wrap", "1.0.0")])
        self.assertEqual(len(TREE[1]), 9)

    def test_one_chain_for_each_pair(self):
        self.fewest(True, BUILT, ("fewest", self.CHAINS))
        self.fewest(True, BUILT, ("fewest", (("core",), ("core",))))

    def test_without_pairs(self):
        self.fewest(True, ((), ()), ("fewest", ()), (PACKAGES, (), ()))
        some = (PACKAGES, wishes("core *"), LOCK)
        self.fewest(True, build(*some), ("fewest", ()), some)
        self.fewest(False, build(*some), ("fewest", ((),)), some)
        self.fewest(True, ring_shelf(2), ("fewest", ()), RING)

    def test_too_few_and_too_many(self):
        for chains in ((), self.CHAINS[:1], self.CHAINS + (("core",),), self.CHAINS + self.CHAINS, self.CHAINS + ((),)):
            self.fewest(False, BUILT, ("fewest", chains))

    def test_in_another_order(self):
        self.fewest(False, BUILT, ("fewest", (("plug", "core"), ("core",))))

    def test_the_order_of_the_pairs(self):
        # Three instances of m, each with another p: by i, then by j.
        packages = tuple(package("p", f"{number}.0.0") for number in (1, 2, 3)) + (
            package("q", "1.0.0"), package("q", "2.0.0"), package("m", "1.0.0", "", "p *, q *"),
            package("a", "1.0.0", "p 1.0.0, q 1.0.0, m *"), package("b", "1.0.0", "p 1.0.0, q 2.0.0, m *"),
            package("c", "1.0.0", "p 2.0.0, q 1.0.0, m *"))
        project = wishes("a *, b *, c *")
        some = (packages, project, lock_of(packages, project))
        shelf = build(*some)
        self.assertEqual([row[0] for row in shelf[1] if row[0] in "abcm"], ["a", "b", "c", "m", "m", "m"])
        # The first and the second m differ in q, the first and the third one in p, the others in both.
        for chains, taken in (((("q",), ("p",), ("p",)), True), ((("q",), ("p",), ("q",)), True),
                              ((("p",), ("q",), ("p",)), False), ((("p",), ("p",), ("q",)), False),
                              ((("q",), ("q",), ("p",)), False)):
            self.fewest(taken, shelf, ("fewest", chains), some)

    def test_two_instances_side_by_side(self):
        packages = PACKAGES[:2] + (package("m", "1.0.0", "", "core *"), package("a", "1.0.0", "core 1.0.0, m *"),
                                   package("b", "1.0.0", "m *", "core *"))
        project = wishes("a *, b *, core *")
        some = (packages, project, lock_of(packages, project))
        shelf = build(*some)
        self.assertEqual([row[0] for row in shelf[1]], ["a", "b", "core", "core", "m", "m"])
        self.fewest(True, shelf, ("fewest", (("core",),)), some)
        self.fewest(False, shelf, ("fewest", ()), some)
        self.fewest(False, shelf, ("fewest", ((),)), some)

    def test_chains_that_tell_nothing_apart_or_lead_nowhere(self):
        for chain in ((), ("plug",), ("nowhere",), ("core", "core"), ("left",), ("plug", "plug")):
            self.fewest(False, BUILT, ("fewest", (("core",), chain)))
            self.fewest(False, BUILT, ("fewest", (chain, ("core",))))

    def test_for_a_shelf_that_has_more_than_needed(self):
        pairs = [(i, j) for i in range(9) for j in range(i + 1, 9) if TREE[1][i][:2] == TREE[1][j][:2]]
        self.assertEqual(len(pairs), 7)
        for chain in ((), ("core",), ("plug", "core"), ("plug",)):
            self.fewest(False, TREE, ("fewest", (chain,) * len(pairs)))
        self.fewest(False, ring_shelf(4), ("fewest", (("b",), ("a",))), RING)

    def test_nonsense_in_every_place(self):
        for at in places(("fewest", self.CHAINS)):
            for value in nonsense():
                self.fewest(False, BUILT, replaced(("fewest", self.CHAINS), at, value))

    def test_what_is_no_paper(self):
        for paper in wrong_papers():
            self.fewest(False, BUILT, paper)
            self.fewest(False, TREE, paper)


class Folds(Case):
    """In the shelf TREE, each occurrence has an instance: core, left, plug, wrap, then those behind left and wrap."""

    IMAGES = (0, 1, 2, 3, 4, 5, 6, 2, 5)

    def test_a_shelf_with_fewer(self):
        self.fewest(True, TREE, ("folds", BUILT, self.IMAGES))
        self.fewest(True, ring_shelf(4), ("folds", ring_shelf(2), (0, 1, 0, 1)), RING)
        self.fewest(True, ring_shelf(600), ("folds", ring_shelf(2), (0, 1) * 300), RING)

    def test_it_need_not_have_the_fewest(self):
        heads = {path: path for path in View(*WORLD).paths}
        heads[WRAP_PLUG] = PLUG
        other = folded_shelf(View(*WORLD), heads)
        self.assertEqual(len(other[1]), 8)
        self.fewest(True, TREE, ("folds", other, (0, 1, 2, 3, 4, 5, 6, 2, 7)))
        self.fewest(True, other, ("folds", BUILT, (0, 1, 2, 3, 4, 5, 6, 5)))
        self.fewest(True, ring_shelf(8), ("folds", ring_shelf(4), (0, 1, 2, 3) * 2), RING)

    def test_not_with_as_many(self):
        self.fewest(False, BUILT, ("folds", BUILT, (0, 1, 2, 3, 4, 5, 6)))
        self.fewest(False, TREE, ("folds", TREE, tuple(range(9))))
        self.fewest(False, ((), ()), ("folds", ((), ()), ()), (PACKAGES, (), ()))
        self.fewest(False, ring_shelf(4), ("folds", ring_shelf(6), (0, 1, 2, 3)), RING)

    def test_other_images(self):
        for at in range(9):
            for image in range(-1, 9):
                images = self.IMAGES[:at] + (image,) + self.IMAGES[at + 1:]
                self.fewest(images == self.IMAGES, TREE, ("folds", BUILT, images))

    def test_too_few_and_too_many_images(self):
        for images in ((), self.IMAGES[:-1], self.IMAGES + (0,), list(self.IMAGES), dict(enumerate(self.IMAGES))):
            self.fewest(False, TREE, ("folds", BUILT, images))

    def test_true_is_no_index(self):
        self.fewest(False, TREE, ("folds", BUILT, (False, True, 2, 3, 4, 5, 6, 2, 5)))
        self.fewest(False, TREE, ("folds", BUILT, (0, True, 2, 3, 4, 5, 6, 2, 5)))
        self.fewest(False, TREE, ("folds", BUILT, (0, 1.0, 2, 3, 4, 5, 6, 2, 5)))

    def test_the_links_of_the_project_are_kept_too(self):
        packages = (package("core", "1.0.0"), package("left", "1.0.0", "core *"), package("right", "1.0.0", "core *"))
        project = wishes("core *, left *, right *")
        some = (packages, project, lock_of(packages, project))
        links = (("core", 0), ("left", 1), ("right", 2))

        def shelf(left, right, many):
            cores = (("core", "1.0.0", (), ()),) * many
            rows = (("left", "1.0.0", (("core", left),), ()), ("right", "1.0.0", (("core", right),), ()))
            return links, cores[:1] + rows + cores[1:]
        self.fewest(True, shelf(3, 4, 3), ("folds", shelf(3, 3, 2), (0, 1, 2, 3, 3)), some)
        self.fewest(False, shelf(3, 4, 3), ("folds", shelf(3, 3, 2), (3, 1, 2, 3, 3)), some)

    def test_another_shelf_that_is_not_valid(self):
        self.fewest(False, TREE, ("folds", (BUILT[0], BUILT[1][:-1]), self.IMAGES))
        self.fewest(False, TREE, ("folds", (BUILT[0][1:], BUILT[1]), self.IMAGES))
        self.fewest(False, TREE, ("folds", ((), ()), self.IMAGES))
        self.fewest(False, TREE, ("folds", build(PACKAGES, wishes("core *"), LOCK), self.IMAGES))

    def test_nonsense_in_every_place(self):
        paper = ("folds", BUILT, self.IMAGES)
        for at in places(paper):
            for value in nonsense():
                self.fewest(False, TREE, replaced(paper, at, value))


class Onto(Case):
    def test_the_map(self):
        self.onto(True, TREE, ("onto", Folds.IMAGES))
        self.onto(True, BUILT, ("onto", (0, 1, 2, 3, 4, 5, 6)))
        self.onto(True, ((), ()), ("onto", ()), (PACKAGES, (), ()))

    def test_no_other_map(self):
        for at in range(9):
            for image in range(-1, 9):
                images = Folds.IMAGES[:at] + (image,) + Folds.IMAGES[at + 1:]
                self.onto(images == Folds.IMAGES, TREE, ("onto", images))
        for images in itertools.permutations(range(7)):
            if images[0] == 0 and images[1] == 1:
                self.onto(images == (0, 1, 2, 3, 4, 5, 6), BUILT, ("onto", images))

    def test_too_few_and_too_many(self):
        for images in ((), Folds.IMAGES[:-1], Folds.IMAGES + (0,), list(Folds.IMAGES)):
            self.onto(False, TREE, ("onto", images))

    def test_nonsense_in_every_place(self):
        for at in places(("onto", Folds.IMAGES)):
            for value in nonsense():
                self.onto(False, TREE, replaced(("onto", Folds.IMAGES), at, value))
        for paper in wrong_papers():
            self.onto(False, TREE, paper)
            self.onto(False, BUILT, paper)

    def test_errors_of_view_ahead_of_all(self):
        for shelf in (ring_shelf(2), None, Hostile()):
            for paper in (("onto", (0, 1)), None, Hostile()):
                self.raises(Cycle, judge_onto, *RING, shelf, paper)
                self.raises(NotLocked, judge_onto, RING[0], RING[1], (), shelf, paper)
                for wrong in not_checkable():
                    self.raises(BadPackages, judge_onto, wrong, wrong, wrong, shelf, paper)
                    self.raises(BadProject, judge_onto, PACKAGES, wrong, wrong, shelf, paper)
                    self.raises(BadLock, judge_onto, PACKAGES, wishes("gone *"), wrong, shelf, paper)
        self.raises(Cycle, explain_onto, *RING, ring_shelf(2))


class ShelvesThatAreNotValid(Case):
    def test_no_paper_is_taken(self):
        one = (PACKAGES, wishes("core *"), LOCK)
        for shelf in (((("core", 0),), ()), ((), (("core", "2.0.0", (), ()),)), ((), ()), None, (), Hostile(),
                      ((("core", 0),), (("core", "1.0.0", (), ()),)), [(("core", 0),), (("core", "2.0.0", (), ()),)],
                      ((("core", 0),), (("core", "2.0.0", (), ()), ("core", "2.0.0", (), ())))):
            for paper in (("fewest", ()), ("folds", build(*one), (0,)), ("folds", build(*one), (0, 0)), ("onto", (0,)),
                          ("onto", ()), ("onto", (0, 0))):
                self.fewest(False, shelf, paper, one)
                self.onto(False, shelf, paper, one)

    def test_papers_of_the_valid_one_with_one_part_spoilt(self):
        for at in places(BUILT):
            for value in (None, -1, "core", (), 10 ** 9, Hostile()):
                shelf = replaced(BUILT, at, value)
                if type(value) is Hostile or shelf != BUILT:
                    self.fewest(False, shelf, ("fewest", Fewest.CHAINS))
                    self.onto(False, shelf, ("onto", (0, 1, 2, 3, 4, 5, 6)))

    def test_these_errors_alone(self):
        for shelf in (BUILT, None, Hostile()):
            for paper in (("fewest", ()), None, Hostile()):
                for wrong in not_checkable():
                    self.raises(BadPackages, judge_fewest, wrong, wrong, wrong, shelf, paper)
                    self.raises(BadProject, judge_fewest, PACKAGES, wrong, wrong, shelf, paper)
                    self.raises(BadLock, judge_fewest, PACKAGES, PROJECT, wrong, shelf, paper)
        self.fewest(False, BUILT, ("fewest", Fewest.CHAINS), (PACKAGES, wishes("gone *"), LOCK))
        self.fewest(False, BUILT, ("fewest", Fewest.CHAINS), RING)


class Makers(Case):
    def test_what_they_return(self):
        self.assertEqual(explain_apart(*WORLD, WRAP, LEFT_WRAP), ("apart", ("core",)))
        self.assertEqual(explain_apart(*WORLD, WRAP, LEFT)[0], "apart")
        word, pairs = explain_apart(*WORLD, PLUG, WRAP_PLUG)
        self.assertEqual((word, sorted(pairs)), ("same", sorted(Same.PAIRS)))
        self.assertEqual(explain_fewest(*WORLD, BUILT)[0], "fewest")
        self.assertEqual(explain_fewest(*WORLD, TREE)[0], "folds")
        self.assertEqual(explain_onto(*WORLD, TREE), ("onto", Folds.IMAGES))
        for some in ((PACKAGES, (), ()), (PACKAGES, wishes("core *"), LOCK)):
            self.fewest(True, build(*some), explain_fewest(*some, build(*some)), some)
            self.onto(True, build(*some), explain_onto(*some, build(*some)), some)

    def test_bad_values_ahead_of_all(self):
        for function, arguments in ((explain_apart, (("x",), ("y",))), (explain_fewest, (BUILT,)),
                                    (explain_onto, (BUILT,))):
            for wrong in not_checkable():
                self.raises(BadPackages, function, wrong, wrong, wrong, *arguments)
                self.raises(BadProject, function, PACKAGES, wrong, wrong, *arguments)
                self.raises(BadLock, function, PACKAGES, wishes("gone *"), wrong, *arguments)

    def test_it_is_taken_for_any_two_occurrences(self):
        words = set()
        for number, some in enumerate(good_worlds(9000, 60)):
            pairs = list(itertools.product(View(*some).paths, repeat=2))
            for one, other in random.Random(number).sample(pairs, min(len(pairs), 60)):
                paper = explain_apart(*some, one, other)
                self.apart(True, one, other, paper, some)
                self.assertEqual(paper[0] == "same", tell_apart(*some, one, other) is None)
                words.add(paper[0])
        self.assertEqual(words, {"same", "apart"})

    def test_it_is_taken_for_any_valid_shelf(self):
        words = set()
        for number, some in enumerate(good_worlds(10000, 150)):
            draw, view = random.Random(number), View(*some)
            shelves = [build(*some), tree_shelf(view)]
            shelves.append(drawn_fold(draw, view, lambda one, other: same_instance(view, one, other)))
            for shelf in shelves + [turned(draw, shelf) for shelf in shelves]:
                paper = explain_fewest(*some, shelf)
                self.fewest(True, shelf, paper, some)
                self.onto(True, shelf, explain_onto(*some, shelf), some)
                self.assertEqual(paper[0] == "fewest", len(shelf[1]) == len(shelves[0][1]))
                words.add(paper[0])
        self.assertEqual(words, {"fewest", "folds"})

    def test_a_large_project(self):
        project = wishes("c1 *, c2 *, c5 *, c8 *")
        some = (ladder(), project, lock_of(ladder(), project))
        view = View(*some)
        self.apart(True, view.paths[-1], ("c8",), explain_apart(*some, view.paths[-1], ("c8",)), some)
        self.fewest(True, tree_shelf(view), explain_fewest(*some, tree_shelf(view)), some)
        self.fewest(True, build(*some), explain_fewest(*some, build(*some)), some)


class JustOneKind(Case):
    def test_never_apart_and_same(self):
        for some in good_worlds(11000, 25):
            view = View(*some)
            names = sorted({name for path in view for name, _ in view.links(path)})
            chains = [chain for many in range(3) for chain in itertools.product(names, repeat=many)]
            alike = [(one, other) for one, other in itertools.product(view.paths, repeat=2)
                     if view.package(one) == view.package(other)]
            for one, other in alike[:15]:
                kinds = {"apart" for chain in chains if judge_apart(*some, one, other, ("apart", chain))}
                papers = [("same", tuple(alike)), ("same", ((one, other),)),
                          ("same", tuple(pair for pair in alike if same_instance(view, *pair)))]
                papers.append(("same", papers[-1][1] + ((one, other),)))
                kinds |= {"same" for paper in papers if judge_apart(*some, one, other, paper)}
                self.assertEqual(len(kinds | {explain_apart(*some, one, other)[0]}), 1)

    def test_never_fewest_and_folds(self):
        for number, some in enumerate(good_worlds(12000, 80)):
            draw, view = random.Random(number), View(*some)
            shelves = [build(*some), tree_shelf(view)]
            shelves.append(drawn_fold(draw, view, lambda one, other: same_instance(view, one, other)))
            for shelf in shelves:
                kinds = {explain_fewest(*some, shelf)[0]}
                for other in shelves:
                    _, images = explain_onto(*some, shelf)
                    for guess in (images, tuple(range(len(shelf[1])))):
                        if judge_fewest(*some, shelf, ("folds", other, guess)):
                            kinds.add("folds")
                pairs = [(i, j) for i, j in itertools.combinations(range(len(shelf[1])), 2)
                         if shelf[1][i][:2] == shelf[1][j][:2]]
                links = [dict(row[2] + row[3]) for row in shelf[1]]
                for many in range(4):
                    chains = tuple(tuple(draw.choice(list(links[i])) for _ in range(many) if links[i])
                                   for i, _ in pairs)
                    if judge_fewest(*some, shelf, ("fewest", chains)):
                        kinds.add("fewest")
                self.assertEqual(len(kinds), 1)


if __name__ == "__main__":
    unittest.main()
