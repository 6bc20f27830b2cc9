"""Points 24 and 25, and the keys of point 22."""

import itertools

from peershelf.errors import Cycle, DiskFull, InvalidPeer, MissingPeer, NoVersion, TooMany
from peershelf.shelves import build
from peershelf.works import Works
from tests.support import package, wishes
from tests.test_works import PLUGS, Case, all_of, works_with
from tests.worlds import crowd, crowded, ladder

# core 2.0.0, left, core 1.0.0 and plug are the instances, in this order: nine steps.
PROJECT = "left *, core *"
LOCK = (("core", "*", "2.0.0"), ("core", "^1.0.0", "1.0.0"), ("left", "*", "1.0.0"), ("plug", "*", "1.0.0"))
ORDER = (("core", "2.0.0"), ("left", "1.0.0"), ("core", "1.0.0"), ("plug", "1.0.0"))


def entries_after(steps):
    """The entries after so many steps of the first installation of the project."""
    rows = [ORDER[at] + (steps > 2 * at + 1,) for at in range(4) if steps > 2 * at]
    return tuple(sorted(rows))


class Steps(Case):
    def test_all_at_once(self):
        works = works_with(PLUGS, PROJECT)
        self.assertEqual(works.install(0), ("left", 0))
        self.assertEqual(works.shelves, (build(PLUGS, wishes(PROJECT), LOCK), None, None))
        self.assertEqual(works.locks, (LOCK, (), ()))
        self.assertEqual(works.entries(), entries_after(9))
        self.assertEqual(len(works), 4)

    def test_at_most_so_many(self):
        for most in range(12):
            works = works_with(PLUGS, PROJECT)
            self.assertEqual(works.install(0, most=most), ("left", max(0, 9 - most)))
            self.assertEqual(works.entries(), entries_after(most), most)
            self.assertEqual(works.shelves[0] is not None, most >= 9)
            self.assertEqual(works.locks[0], LOCK)
            self.assertEqual(works.status(0)[3], max(0, 9 - most))

    def test_one_by_one(self):
        works = works_with(PLUGS, PROJECT)
        for done in range(1, 10):
            self.assertIsNone(works.shelves[0])
            self.assertEqual(works.install(0, most=1), ("left", 9 - done))
            self.assertEqual(works.entries(), entries_after(done))
        self.assertEqual(works.follow(0, ("left", "plug", "core")), ("core", "1.0.0"))
        self.assertEqual(works.install(0, most=1), ("left", 0))

    def test_every_way_to_stop(self):
        for first, second in itertools.product(range(10), repeat=2):
            works = works_with(PLUGS, PROJECT)
            works.install(0, most=first)
            self.assertEqual(works.install(0, most=second), ("left", max(0, 9 - first - second)))
            self.assertEqual(works.entries(), entries_after(first + second))
            self.assertEqual(works.install(0), ("left", 0))
            self.assertEqual(works.entries(), entries_after(9))

    def test_an_empty_project_has_one_step(self):
        works = Works()
        self.assertEqual(works.install(1, most=0), ("left", 1))
        self.assertEqual(works.shelves, (None, None, None))
        self.assertEqual(works.install(1), ("left", 0))
        self.assertEqual(works.shelves, (None, ((), ()), None))
        self.assertEqual(works.status(1), ((), (), ((), ()), 0))

    def test_an_equal_shelf_is_not_switched_to(self):
        works = works_with(PLUGS, PROJECT)
        works.install(0)
        shelf = works.shelves[0]
        self.assertEqual(works.install(0, most=0), ("left", 0))
        self.assertEqual(works.status(0)[3], 0)
        self.assertEqual(works.shelves[0], shelf)

    def test_a_switch_alone(self):
        works = works_with(PLUGS, PROJECT)
        works.install(0)
        works.set_dependency(0, "core", None)
        before = works.shelves[0]
        self.assertEqual(works.install(0, most=0), ("left", 1))
        self.assertEqual(works.shelves[0], before)
        self.assertEqual(works.install(0, most=1), ("left", 0))
        self.assertEqual(works.shelves[0], build(PLUGS, wishes("left *"), LOCK))
        works.set_dependency(0, "core", "*")
        self.assertEqual(works.install(0), ("left", 0))
        self.assertEqual(works.shelves[0], before)

    def test_the_old_shelf_stays_until_the_last_step(self):
        works = works_with(PLUGS, "core 1.0.0")
        works.install(0)
        before = works.shelves[0]
        for name, wanted in wishes(PROJECT):
            works.set_dependency(0, name, wanted)
        self.assertEqual(works.status(0)[3], 7)
        for left in range(6, 0, -1):
            self.assertEqual(works.install(0, most=1), ("left", left))
            self.assertEqual(works.shelves[0], before)
            self.assertEqual(works.follow(0, ("core",)), ("core", "1.0.0"))
        works.install(0, most=1)
        self.assertEqual(works.follow(0, ("core",)), ("core", "2.0.0"))


class TheLock(Case):
    def test_it_changes_though_no_step_is_performed(self):
        works = works_with(PLUGS, PROJECT)
        works.install(0, most=0)
        self.assertEqual((works.locks[0], works.entries(), works.shelves[0]), (LOCK, (), None))

    def test_it_changes_though_a_script_fails(self):
        works = works_with(PLUGS, PROJECT)
        works.install(0, (False,))
        self.assertEqual(works.locks[0], LOCK)

    def test_it_is_resolved_by_the_lock(self):
        works = works_with(PLUGS[:1], "core *")
        works.install(0)
        works.publish(PLUGS[1])
        self.assertEqual(works.install(0), ("left", 0))
        self.assertEqual(works.locks[0], (("core", "*", "1.0.0"),))
        works.update(0, ("core",))
        self.assertEqual(works.status(0)[3], 3)
        works.install(0)
        self.assertEqual(works.follow(0, ("core",)), ("core", "2.0.0"))

    def test_entries_that_nothing_reaches_are_left_out(self):
        works = works_with(PLUGS, PROJECT)
        works.install(0)
        works.set_dependency(0, "left", None)
        works.install(0, most=0)
        self.assertEqual(works.locks[0], (("core", "*", "2.0.0"),))

    def test_a_version_that_was_withdrawn(self):
        works = works_with(PLUGS, "core *")
        works.install(0)
        works.withdraw("core", "2.0.0")
        self.assertEqual(works.install(0, most=0), ("left", 3))
        self.assertEqual(works.locks[0], (("core", "*", "1.0.0"),))
        self.assertEqual(works.follow(0, ("core",)), ("core", "2.0.0"))


class Scripts(Case):
    def test_one_fails(self):
        for at in range(4):
            works = works_with(PLUGS, PROJECT)
            outcomes = (True,) * at + (False,)
            self.assertEqual(works.install(0, outcomes), ("failed",) + ORDER[at])
            self.assertEqual(works.entries(), entries_after(2 * at + 1))
            self.assertIsNone(works.shelves[0])
            self.assertEqual(works.status(0)[3], 8 - 2 * at)

    def test_gone_on_with_later(self):
        for at in range(4):
            works = works_with(PLUGS, PROJECT)
            works.install(0, (True,) * at + (False,))
            self.assertEqual(works.install(0, (False,)), ("failed",) + ORDER[at])
            self.assertEqual(works.entries(), entries_after(2 * at + 1))
            self.assertEqual(works.install(0, (True, False)), ("failed",) + ORDER[at + 1] if at < 3 else ("left", 0))
            self.assertEqual(works.install(0), ("left", 0))
            self.assertEqual(works.entries(), entries_after(9))

    def test_scripts_beyond_the_end_succeed(self):
        for many in range(6):
            works = works_with(PLUGS, PROJECT)
            self.assertEqual(works.install(0, (True,) * many), ("left", 0))

    def test_outcomes_behind_the_first_that_fails_mean_nothing(self):
        works = works_with(PLUGS, PROJECT)
        self.assertEqual(works.install(0, (True, False, True, False)), ("failed", "left", "1.0.0"))
        self.assertEqual(works.install(0, (True, True, True, False)), ("left", 0))

    def test_a_script_that_is_not_run_does_not_fail(self):
        works = works_with(PLUGS, PROJECT)
        self.assertEqual(works.install(0, (False,), most=0), ("left", 9))
        self.assertEqual(works.install(0, (False,), most=1), ("left", 8))
        self.assertEqual(works.install(0, (True, False), most=2), ("left", 6))
        self.assertEqual(works.install(0, (False,), most=1), ("failed", "left", "1.0.0"))
        self.assertEqual(works.entries(), entries_after(3))

    def test_no_script_is_run_for_what_is_complete(self):
        works = works_with(PLUGS, PROJECT)
        works.install(0, most=4)
        self.assertEqual(works.install(0, (False,)), ("failed", "core", "1.0.0"))
        works.install(0)
        self.assertEqual(works.install(0, (False, False)), ("left", 0))
        self.assertEqual(works.install(1, (False,)), ("left", 0))

    def test_outcomes_by_name(self):
        works = works_with(PLUGS, PROJECT)
        self.assertEqual(works.install(0, outcomes=(False,), most=5), ("failed", "core", "2.0.0"))
        self.assertEqual(works.foresee(0, outcomes=(), most=5), ("left", 3))

    def test_the_failed_one_may_be_skipped_by_another_project(self):
        works = works_with(PLUGS, PROJECT, "left *")
        self.assertEqual(works.install(0, (True, True, False)), ("failed", "core", "1.0.0"))
        # left is complete, core 1.0.0 made, plug not there.
        self.assertEqual(works.status(1)[3], 1 + 2 + 1)
        self.assertEqual(works.install(1), ("left", 0))
        self.assertEqual(works.status(0)[3], 1)


class Sharing(Case):
    def test_the_same_instances_of_several_projects(self):
        works = works_with(PLUGS, PROJECT, "left *", "core 1.0.0, plug *")
        self.assertEqual([works.status(number)[3] for number in range(3)], [9, 7, 5])
        works.install(0)
        self.assertEqual([works.status(number)[3] for number in range(3)], [0, 1, 1])
        works.install(1)
        works.install(2)
        self.assertEqual(len(works), 4)

    def test_instances_with_other_peers_are_others(self):
        works = works_with(PLUGS, "left *", "core *, plug *")
        works.install(0)
        self.assertEqual(works.status(1)[3], 5)
        works.install(1)
        self.assertEqual(works.entries(), (("core", "1.0.0", True), ("core", "2.0.0", True), ("left", "1.0.0", True),
                                           ("plug", "1.0.0", True), ("plug", "1.0.0", True)))

    def test_a_difference_that_is_far_away(self):
        rows = (package("a", "1.0.0", "b *", "core *"), package("b", "1.0.0", "c *", "core *"),
                package("c", "1.0.0", "", "core *")) + PLUGS[:2]
        works = works_with(rows, "a *, core 1.0.0", "a *, core 2.0.0", "a *, core *")
        for number, entries in ((0, 4), (1, 8), (2, 8)):
            works.install(number)
            self.assertEqual(len(works), entries)

    def test_a_dependency_locked_to_another_version(self):
        rows = (package("a", "1.0.0", "core *"), package("core", "1.0.0"))
        works = works_with(rows, "a *", "a *")
        works.install(0)
        works.publish(package("core", "2.0.0"))
        works.install(1)
        self.assertEqual(works.entries(), (("a", "1.0.0", True), ("a", "1.0.0", True), ("core", "1.0.0", True),
                                           ("core", "2.0.0", True)))

    def test_the_range_of_a_project_is_not_in_a_key(self):
        works = works_with(PLUGS, "core *", "core ^2.0.0", "core 2.0.0")
        works.install(0)
        self.assertEqual([works.status(number)[3] for number in range(3)], [0, 1, 1])

    def test_the_numbers_of_the_instances_are_not_in_a_key(self):
        rows = (package("a", "1.0.0"), package("b", "1.0.0"), package("m", "1.0.0", "", "n *"),
                package("n", "1.0.0", "", "m *"))
        works = works_with(rows, "m *, n *", "a *, m *, n *", "m *, n *, b *, a *")
        self.assertEqual([works.install(number) for number in range(3)], [("left", 0)] * 3)
        self.assertEqual(len(works), 4)
        self.assertEqual(works.shelves[1][1][1], ("m", "1.0.0", (), (("n", 2),)))

    def test_rings_seen_from_each_of_their_instances(self):
        rows = tuple(package(name, "1.0.0", "", f"{peer} *") for name, peer in zip("abc", "bca"))
        rows += (package("x", "1.0.0", "a *, b *, c *"),)
        works = works_with(rows, "a *, b *, c *", "x *", "x *, a *, b *, c *")
        self.assertEqual([works.install(number) for number in range(3)], [("left", 0)] * 3)
        self.assertEqual(len(works), 4)

    def test_half_of_an_installation_of_another_project(self):
        works = works_with(PLUGS, PROJECT, "left *")
        works.install(0, most=5)
        # left is complete, core 1.0.0 is made.
        self.assertEqual(works.install(1, most=1), ("left", 3))
        self.assertEqual(works.install(0, most=0), ("left", 3))
        self.assertEqual(works.install(1), ("left", 0))
        self.assertEqual(works.install(0, most=0), ("left", 1))


class Errors(Case):
    def test_no_version(self):
        works = works_with(PLUGS, PROJECT)
        works.install(0, most=3)
        works.set_dependency(0, "z", "*")
        error = self.refuses(NoVersion, works, "install", 0)
        self.assertEqual((error.name, error.wanted), ("z", "*"))
        self.refuses(NoVersion, works, "install", 0, (False,), most=0)

    def test_the_errors_of_occurrences(self):
        rows = PLUGS + (package("a", "1.0.0", "b *"), package("b", "1.0.0", "a *"),
                        package("old", "1.0.0", "", "core ^1.0.0"))
        works = works_with(rows, "a *", "plug *", "old *, core *")
        self.assertEqual(self.refuses(Cycle, works, "install", 0).path, ("a", "b", "a"))
        self.assertEqual(self.refuses(MissingPeer, works, "install", 1).path, ("plug", "core"))
        self.assertEqual(self.refuses(InvalidPeer, works, "install", 2, (), most=0).path, ("old", "core"))
        self.assertEqual(works.locks, ((), (), ()))

    def test_too_many(self):
        works = works_with(ladder(), "c1 *, c2 *, c5 *, c7 *")
        self.refuses(TooMany, works, "install", 0)
        works.set_dependency(0, "c7", None)
        self.assertEqual(works.install(0), ("left", 0))

    def test_no_version_ahead_of_those_of_occurrences(self):
        works = works_with(PLUGS, "plug *, z *")
        self.refuses(NoVersion, works, "install", 0)

    def test_an_installed_shelf_stays(self):
        works = works_with(PLUGS, PROJECT)
        works.install(0)
        works.withdraw("core", "1.0.0")
        self.refuses(NoVersion, works, "install", 0)
        self.assertEqual(works.follow(0, ("left", "core")), ("core", "1.0.0"))


class FullDisk(Case):
    def set_project(self, works, number, project):
        """Give a project just these dependencies."""
        for name, _ in works.projects[number]:
            works.set_dependency(number, name, None)
        for name, wanted in project:
            works.set_dependency(number, name, wanted)

    def filled(self):
        """Works whose disk has 984 entries, and their next project, which needs more than 16."""
        works = works_with(crowd())
        for project in crowded():
            self.set_project(works, 0, project)
            if len(works) == 984:
                return works
            self.assertEqual(works.install(0), ("left", 0))
        return None

    # What these need beyond the 984 entries: 1 and 16.
    ONE = next(crowded(("c3",)))
    SIXTEEN = wishes("z 2.0.0, y 2.0.0, a 2.0.0, b 1.0.0, c5 *, c6 *")

    def test_more_than_1000(self):
        works = self.filled()
        self.refuses(DiskFull, works, "install", 0)
        self.refuses(DiskFull, works, "install", 0, (False,))
        self.refuses(DiskFull, works, "status", 0)
        self.refuses(DiskFull, works, "foresee", 0)

    def test_in_the_end_though_fewer_steps_are_performed(self):
        works = self.filled()
        self.refuses(DiskFull, works, "install", 0, (), most=0)
        self.refuses(DiskFull, works, "install", 0, (), most=1)

    def test_1000(self):
        works = self.filled()
        self.set_project(works, 1, self.SIXTEEN)
        self.assertEqual(works.install(1), ("left", 0))
        self.assertEqual((len(works), works.status(1)[3], works.install(1)), (1000, 0, ("left", 0)))
        self.set_project(works, 2, self.ONE)
        self.refuses(DiskFull, works, "install", 2)

    def test_1001(self):
        works = self.filled()
        self.set_project(works, 2, self.ONE)
        self.assertEqual(works.install(2), ("left", 0))
        self.assertEqual(len(works), 985)
        self.set_project(works, 1, self.SIXTEEN)
        self.refuses(DiskFull, works, "install", 1)

    def test_entries_that_are_there_do_not_count_twice(self):
        works = self.filled()
        self.set_project(works, 1, self.SIXTEEN)
        works.install(1, most=7)
        self.assertEqual(len(works), 988)
        self.assertEqual(works.install(1), ("left", 0))
        for project in (self.SIXTEEN, next(crowded())):
            self.set_project(works, 2, project)
            self.assertEqual(works.install(2), ("left", 0))
        self.assertEqual(len(works), 1000)

    def test_collecting_makes_room(self):
        works = self.filled()
        installed = len(works.shelves[0][1])
        self.assertEqual(works.collect(), 984 - installed)
        self.assertEqual(works.install(0), ("left", 0))

    def test_the_errors_of_occurrences_ahead(self):
        works = self.filled()
        self.set_project(works, 0, wishes("z *, y *, a *, b 1.0.0, c1 *, c2 *"))
        self.refuses(DiskFull, works, "install", 0)
        self.set_project(works, 0, wishes("z *, a *, b 1.0.0, c1 *, c2 *"))
        self.refuses(MissingPeer, works, "install", 0)
        self.set_project(works, 0, wishes("z *, y *, a *, b 1.0.0, c1 *, gone *"))
        self.refuses(NoVersion, works, "install", 0)
