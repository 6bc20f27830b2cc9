"""Packages, projects and locks for tests: drawn ones, from a number that the test writes, and large ones."""

import itertools
import random

from peershelf.errors import ShelfError
from peershelf.occurrences import View
from peershelf.resolving import resolve
from peershelf.versions import satisfies
from tests.support import package, wishes

VERSIONS = ("1.0.0", "2.0.0", "9.0.0", "10.0.0")
RANGES = ("*", "*", "*", "^1.0.0", "^2.0.0", ">=2.0.0 <11.0.0", "9.0.0 || 10.0.0", "^1.0.0 || ^2.0.0")
PEER_RANGES = ("*", "*", "*", "*", "*", ">=1.0.0 <10.0.0", "^1.0.0 || ^9.0.0", "^2.0.0 || 10.0.0")


def drawn_range(draw, versions, ranges):
    """A range that one of some versions satisfies, most of the time."""
    wanted = draw.choice(ranges)
    if versions and draw.random() < 0.3:
        wanted = draw.choice(versions)
    return wanted if draw.random() < 0.01 or any(satisfies(version, wanted) for version in versions) else "*"


def needed_peers(packages, names):
    """The names of the peers of all packages with one of some names."""
    return {peer for name, _, _, peers in packages if name in names for peer, _ in peers}


def drawn_manifest(draw, name, version, later, packages):
    """A manifest with dependencies on later names, whose peers it mostly provides or shares."""
    versions = {other: [row[1] for row in packages if row[0] == other] for other in later}
    chosen = draw.sample(later, min(len(later), draw.choice((0, 1, 1, 2, 2, 3))))
    # Peers are few names, mostly late ones: so that many packages share them, and some provide them anew.
    peers = {draw.choice("gggggfffeedcba") for _ in range(draw.choice((0, 0, 1, 1, 1, 2)))}
    if draw.random() < 0.97:
        for _ in range(3):
            for peer in sorted(needed_peers(packages, chosen) - set(chosen) - {name}):
                if peer in later and draw.random() < 0.6:
                    chosen.append(peer)
                else:
                    peers.add(peer)
    dependencies = [(other, drawn_range(draw, versions[other], RANGES)) for other in dict.fromkeys(chosen)]
    own = {name, *chosen}
    peers = [(peer, draw.choice(PEER_RANGES) if draw.random() < 0.1 else "*") for peer in sorted(peers - own)]
    draw.shuffle(dependencies)
    draw.shuffle(peers)
    return (name, version, tuple(dependencies[:6]), tuple(peers[:6]))


def drawn_packages(draw):
    """Packages with the names a to g or fewer, one or two versions of each; sometimes one that leads round."""
    names = "abcdefg"[draw.choice((0, 0, 1, 2, 3, 4)):]
    packages = []
    for at in reversed(range(len(names))):
        for version in draw.sample(VERSIONS, draw.choice((2, 2, 3) if names[at] in "fg" else (1, 1, 2))):
            packages.append(drawn_manifest(draw, names[at], version, list(names[at + 1:]), packages))
    if draw.random() < 0.1:
        packages[0] = (packages[0][0], packages[0][1], ((names[0], "*"),), ())
    draw.shuffle(packages)
    return tuple(packages)


def drawn_project(draw, packages):
    """A project on some of the packages and, mostly, on what they need as peers."""
    names = sorted({row[0] for row in packages})
    chosen = draw.sample(names, min(len(names), draw.randint(1, 4)))
    for _ in range(4):
        chosen.extend(sorted(needed_peers(packages, chosen).intersection(names) - set(chosen)))
    rows = [(name, draw.choice(RANGES) if draw.random() < 0.2 else "*") for name in chosen[:6]]
    draw.shuffle(rows)
    return tuple(rows)


def drawn_lock(draw, packages, project):
    """What a project resolves to, by a lock that tells drawn versions; now and then without some entry."""
    wishes = sorted({wish for row in packages for wish in row[2]}.union(project))
    old = tuple((name, wanted, draw.choice(VERSIONS)) for name, wanted in wishes if draw.random() < 0.7)
    try:
        lock = resolve(packages, project, old)
    except ShelfError:
        return old
    return tuple(entry for entry in lock if draw.random() < 0.995)


def drawn_world(seed):
    """Packages, a project and a lock."""
    draw = random.Random(seed)
    packages = drawn_packages(draw)
    project = drawn_project(draw, packages)
    return packages, project, drawn_lock(draw, packages, project)


def good_worlds(first, many):
    """So many drawn worlds whose project has a shelf."""
    seed = first
    while many:
        world = drawn_world(seed)
        seed += 1
        try:
            View(*world)
        except ShelfError:
            continue
        many -= 1
        yield world


def ladder(extra=()):
    """Packages c1 to c8 that depend on up to six of those behind them.

    In a project, c8 has one occurrence, c7 two (itself and what is behind it), c6 four, then 8, 16, 32, 64 and 127.
    """
    names = [f"c{number}" for number in range(1, 9)]
    rows = [package(name, "1.0.0", ", ".join(f"{other} *" for other in names[at + 1:at + 7]))
            for at, name in enumerate(names)]
    return tuple(rows) + tuple(extra)


def lock_of(packages, project):
    """The lock to which a project resolves without one."""
    return resolve(packages, project, ())


def tree_shelf(view):
    """The valid shelf with an instance for each occurrence."""
    return folded_shelf(view, {path: path for path in view.paths})


def folded_shelf(view, heads):
    """The shelf with an instance for each value of heads, which tells for each occurrence one that stands for it."""
    order = list(dict.fromkeys(heads[path] for path in view.paths))
    links = {path: tuple((name, order.index(heads[to])) for name, to in view.links(path)) for path in [()] + order}
    own = {path: len([1 for name, to in view.links(path) if to == path + (name,)]) for path in order}
    return links[()], tuple(view.package(path) + (links[path][:own[path]], links[path][own[path]:]) for path in order)


def drawn_fold(draw, view, same):
    """A valid shelf in which some occurrences share an instance, if `same` tells that two may, and some do not."""
    heads = {path: path for path in view.paths}
    pairs = [(one, other) for one in view.paths for other in view.paths if one < other and same(one, other)]
    for pair in draw.sample(pairs, min(len(pairs), draw.randint(0, 3))):
        waiting = [pair]
        while waiting:
            one, other = (heads[path] for path in waiting.pop())
            if one == other:
                continue
            waiting += [(to, dict(view.links(other))[name]) for name, to in view.links(one)]
            heads = {path: one if head == other else head for path, head in heads.items()}
    return folded_shelf(view, heads)


def turned(draw, shelf):
    """A shelf with its instances in another order."""
    links, instances = shelf
    order = draw.sample(range(len(instances)), len(instances))
    places = {old: new for new, old in enumerate(order)}

    def moved(rows):
        return tuple((name, places[index]) for name, index in rows)
    return moved(links), tuple((name, version, moved(own), moved(peers))
                               for name, version, own, peers in [instances[old] for old in order])


def crowd():
    """16 packages of which nearly every occurrence is an instance of its own: c1 to c8 choose a or b anew, in turn.

    a and b share each other, and z and y with the project. So the versions of these four that a project has are in the
    key of each instance, and the projects of `crowded` need more than 1000 entries together.
    """
    rows = [package("a", version, "", "b *, z *") for version in ("1.0.0", "2.0.0")]
    rows += [package("b", version, "", "a *, y *") for version in ("1.0.0", "2.0.0")]
    rows += [package(name, version) for name in "zy" for version in ("1.0.0", "2.0.0")]
    choices = ("b 1.0.0, c2 *, c5 *, c8 *", "a 2.0.0, c3 *, c4 *, c7 *, c8 *", "b 1.0.0, c4 *, c5 *",
               "a 1.0.0, c5 *, c6 *, c7 *", "b 2.0.0, c6 *, c7 *, c8 *", "a 2.0.0, c7 *, c8 *",
               "b 1.0.0, c8 *", "a 1.0.0")
    for number, chosen in enumerate(choices, 1):
        rows.append(package(f"c{number}", "1.0.0", chosen, ("a" if chosen[0] == "b" else "b") + " *, z *, y *"))
    return tuple(rows)


def crowded(first=("c1", "c2")):
    """16 projects of the crowd, one for each choice of the versions of z, y, a and b."""
    more = ", ".join(f"{name} *" for name in first)
    for z, y, a, b in itertools.product("12", repeat=4):
        yield wishes(f"z {z}.0.0, y {y}.0.0, a {a}.0.0, b {b}.0.0, {more}")
