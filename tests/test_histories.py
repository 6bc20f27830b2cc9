"""Points 22 to 28 after many changes in drawn orders: works are compared with plain ones, change by change."""

import copy
import random
import unittest

from peershelf.errors import (AlreadyPublished, BadProject, DiskFull, NoSuchDependency, NotPublished, ShelfError,
                              TooMany)
from peershelf.resolving import resolve
from peershelf.shelves import build
from peershelf.works import Works
from tests.plain import told
from tests.worlds import RANGES, VERSIONS, drawn_packages, drawn_project, good_worlds

NAMES = "abcdefg"


def plain_keys(shelf):
    """The keys of the instances of a shelf, by the words of point 22."""
    keys = []
    for first in range(len(shelf[1])):
        order = [first]
        for at in order:
            for _, index in shelf[1][at][2] + shelf[1][at][3]:
                if index not in order:
                    order.append(index)
        keys.append(tuple((name, version, tuple((other, order.index(index)) for other, index in links),
                           tuple((other, order.index(index)) for other, index in peers))
                          for name, version, links, peers in (shelf[1][at] for at in order)))
    return keys


class PlainWorks:
    """Works by the words of points 22 to 26."""

    def __init__(self):
        self.published, self.gone = [], []
        self.projects, self.locks, self.shelves = [(), (), ()], [(), (), ()], [None, None, None]
        self.disk = {}

    def packages(self):
        return tuple(row for row in self.published if row[:2] not in self.gone)

    def publish(self, manifest):
        if manifest[:2] in [row[:2] for row in self.published]:
            raise AlreadyPublished
        if len(self.published) == 16:
            raise TooMany
        self.published.append(manifest)
        return len(self.packages())

    def withdraw(self, name, version):
        if (name, version) not in [row[:2] for row in self.packages()]:
            raise NotPublished
        self.gone.append((name, version))
        return len(self.packages())

    def set_dependency(self, project, name, wanted):
        wishes = dict(self.projects[project])
        if wanted is None:
            if name not in wishes:
                raise NoSuchDependency
            del wishes[name]
        else:
            if not name or wanted == "wrong":
                raise BadProject
            wishes[name] = wanted
            if len(wishes) > 6:
                raise TooMany
        self.projects[project] = tuple(sorted(wishes.items()))
        return self.projects[project]

    def update(self, project, names):
        rest = tuple(row for row in self.locks[project] if row[0] not in names)
        self.locks[project] = resolve(self.packages(), self.projects[project], rest)
        return self.locks[project]

    def plan(self, project):
        lock = resolve(self.packages(), self.projects[project], self.locks[project])
        shelf = build(self.packages(), self.projects[project], lock)
        steps = []
        for key in plain_keys(shelf):
            if key not in self.disk:
                steps.append(("make", key))
            if self.disk.get(key) is not True:
                steps.append(("run", key))
        if shelf != self.shelves[project]:
            steps.append(("switch", shelf))
        if len(set(self.disk) | set(plain_keys(shelf))) > 1000:
            raise DiskFull
        return lock, steps

    def install(self, project, outcomes, most):
        lock, steps = self.plan(project)
        self.locks[project] = lock
        outcomes = list(outcomes)
        while steps and most > 0:
            word, what = steps.pop(0)
            most -= 1
            if word == "make":
                self.disk[what] = False
            elif word == "switch":
                self.shelves[project] = what
            elif outcomes and not outcomes.pop(0):
                return ("failed",) + what[0][:2]
            else:
                self.disk[what] = True
        return ("left", len(steps))

    def follow(self, project, names):
        if self.shelves[project] is None or names == ():
            return None
        links, instances = self.shelves[project]
        for name in names:
            if name not in dict(links):
                return None
            instance = instances[dict(links)[name]]
            links = instance[2] + instance[3]
        return instance[:2]

    def status(self, project):
        steps = len(self.plan(project)[1])
        return self.projects[project], self.locks[project], self.shelves[project], steps

    def entries(self):
        rows = [key[0][:2] + (complete,) for key, complete in self.disk.items()]
        return tuple(sorted(rows, key=lambda row: (row[0], [int(part) for part in row[1].split(".")], row[2])))

    def collect(self):
        used = {key for shelf in self.shelves if shelf for key in plain_keys(shelf)}
        many = len(self.disk)
        self.disk = {key: complete for key, complete in self.disk.items() if key in used}
        return many - len(self.disk)

    def state(self):
        """What is compared."""
        return (tuple(self.projects), tuple(self.locks), tuple(self.shelves), self.packages(), self.entries(),
                len(self.disk))


def state(works):
    """The same of the works of the program."""
    return works.projects, works.locks, works.shelves, works.packages(), works.entries(), len(works)


def outcome(function, *arguments, **more):
    """What a call gives, or the error that it raises, in a form that can be compared."""
    try:
        return function(*arguments, **more)
    except ShelfError as error:
        return ("raised",) + told(error)


def raised(answer):
    """Whether what `outcome` gives is an error."""
    return type(answer) is tuple and answer[:1] == ("raised",)


class Histories(unittest.TestCase):
    def start(self, seed):
        """Works, plain ones, what draws, and manifests to publish."""
        draw = random.Random(seed)
        ((first, _, _),) = good_worlds(100 * seed, 1)
        works, plain = Works(), PlainWorks()
        for row in first:
            if draw.random() < 0.98:
                self.same(works, plain, "publish", row)
        return draw, list(first + drawn_packages(draw)), works, plain

    def same(self, works, plain, method, *arguments):
        """One change of both works, with the same answer, or the same error and nothing changed."""
        before = state(works)
        expected = outcome(getattr(plain, method), *arguments)
        self.assertEqual(outcome(getattr(works, method), *arguments), expected, method)
        self.assertEqual(state(works), plain.state(), method)
        if raised(expected):
            self.assertEqual(state(works), before)

    def drawn_change(self, draw, rows, works, plain):
        """One drawn change."""
        number = draw.randrange(3)
        kind = draw.choice(("publish",) + ("set",) * 3 + ("project",) * 5 + ("update",) * 2 + ("install",) * 10 +
                           ("collect", "follow", "status", "foresee", "trial", draw.choice(("withdraw", "follow"))))
        if kind == "publish":
            self.same(works, plain, "publish", draw.choice(rows))
        elif kind == "withdraw":
            row = draw.choice(plain.published)
            self.same(works, plain, "withdraw", row[0], row[1] if draw.random() < 0.8 else draw.choice(VERSIONS))
        elif kind == "project":
            self.drawn_dependencies(draw, works, plain, number)
        elif kind == "set":
            wanted = None if draw.random() < 0.3 else draw.choice(RANGES + ("wrong",))
            self.same(works, plain, "set_dependency", number, draw.choice(NAMES), wanted)
        elif kind == "update":
            self.same(works, plain, "update", number, tuple(draw.sample(NAMES, draw.randint(0, 4))))
        elif kind == "install":
            self.install(draw, works, plain, number)
        elif kind == "foresee":
            self.foresee(draw, works, plain, number)
        elif kind == "collect":
            self.same(works, plain, "collect")
        elif kind == "follow":
            self.same(works, plain, "follow", number, tuple(draw.choices(NAMES, k=draw.randint(0, 4))))
        elif kind == "status":
            self.same(works, plain, "status", number)
        else:
            self.trial(draw, rows, works, plain)

    def drawn_dependencies(self, draw, works, plain, number):
        """A project gets dependencies that mostly fit together."""
        for name, _ in works.projects[number]:
            self.same(works, plain, "set_dependency", number, name, None)
        if works.packages():
            for name, wanted in drawn_project(draw, works.packages()):
                self.same(works, plain, "set_dependency", number, name, wanted)

    def drawn_way(self, draw):
        """Outcomes, and how many steps at most."""
        outcomes = tuple(draw.random() < 0.9 for _ in range(draw.choice((0, 0, 1, 5, 20))))
        return outcomes, draw.choice((0, 1, 2, 3, 5, 8, 13, 1000, 1000, 1000))

    def install(self, draw, works, plain, number):
        outcomes, most = self.drawn_way(draw)
        before = state(works)
        expected = outcome(plain.install, number, outcomes, most)
        self.assertEqual(outcome(works.install, number, outcomes, most=most), expected)
        self.assertEqual(state(works), plain.state())
        if raised(expected):
            self.assertEqual(state(works), before)

    def foresee(self, draw, works, plain, number):
        outcomes, most = self.drawn_way(draw)
        expected = outcome(copy.deepcopy(plain).install, number, outcomes, most)
        self.assertEqual(outcome(works.foresee, number, outcomes, most=most), expected)
        self.assertEqual(state(works), plain.state())

    def trial(self, draw, rows, works, plain):
        """Changes in a trial, now and then ended by an error, and now and then with another one in it."""
        inner = copy.deepcopy(plain)
        try:
            with works.tried() as same:
                self.assertIs(same, works)
                for _ in range(draw.randint(0, 6)):
                    self.drawn_change(draw, rows, works, inner)
                if draw.random() < 0.3:
                    raise KeyError
        except KeyError:
            pass
        self.assertEqual(state(works), plain.state())

    def installed_shelves_are_complete(self, plain):
        for shelf in plain.shelves:
            if shelf is not None:
                self.assertTrue(all(plain.disk[key] for key in plain_keys(shelf)))

    def settled(self, draw, works, plain):
        """Whether all three projects can be installed, after some tries."""
        for number in range(3):
            for _ in range(20):
                if raised(outcome(works.status, number)):
                    self.drawn_dependencies(draw, works, plain, number)
        return not any(raised(outcome(works.status, number)) for number in range(3))

    def test_all_is_as_the_words_say(self):
        answers = {}
        for seed in range(100):
            draw, rows, works, plain = self.start(seed)
            for _ in range(60):
                self.drawn_change(draw, rows, works, plain)
                self.installed_shelves_are_complete(plain)
            for number in range(3):
                answer = outcome(works.foresee, number)
                answers[answer[:2]] = answers.get(answer[:2], 0) + 1
        self.assertGreater(answers["left", 0], 100)
        self.assertGreater(len(answers), 2)

    def test_three_installations_and_collect(self):
        done = entries = 0
        for seed in range(100, 180):
            draw, rows, works, plain = self.start(seed)
            for _ in range(40):
                self.drawn_change(draw, rows, works, plain)
            if self.settled(draw, works, plain):
                self.assertEqual([works.install(number) for number in range(3)], [("left", 0)] * 3)
                works.collect()
                keys = set()
                for number in range(3):
                    shelf = build(works.packages(), works.projects[number], works.locks[number])
                    self.assertEqual(works.shelves[number], shelf)
                    keys |= set(plain_keys(shelf))
                told_of = sorted(key[0][:2] + (True,) for key in keys)
                self.assertEqual(sorted(works.entries()), told_of)
                self.assertEqual(len(works), len(keys))
                self.assertEqual([works.status(number)[3] for number in range(3)], [0, 0, 0])
                done, entries = done + 1, entries + len(keys)
        self.assertGreater(done, 40)
        self.assertGreater(entries, 300)

    def test_three_installations_gone_on_with_and_collect(self):
        done = 0
        for seed in range(200, 240):
            draw, rows, works, plain = self.start(seed)
            for _ in range(40):
                self.drawn_change(draw, rows, works, plain)
            if not self.settled(draw, works, plain):
                continue
            # Step by step, one project after the other, until none has a step left.
            left = {0, 1, 2}
            while left:
                number = draw.choice(sorted(left))
                answer = works.install(number, (draw.random() < 0.8,), most=draw.randint(1, 4))
                if answer == ("left", 0):
                    left.remove(number)
            works.collect()
            keys = {key for shelf in works.shelves for key in plain_keys(shelf)}
            self.assertEqual(sorted(works.entries()), sorted(key[0][:2] + (True,) for key in keys))
            self.assertEqual(list(works.shelves), [build(works.packages(), works.projects[number], works.locks[number])
                                                   for number in range(3)])
            done += 1
        self.assertGreater(done, 20)


if __name__ == "__main__":
    unittest.main()
