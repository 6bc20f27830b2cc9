"""The words of points 9 to 16 once more, as plainly as can be: what the program gives is compared with this."""

from peershelf.manifests import find_package
from peershelf.resolving import kept_version
from peershelf.versions import satisfies


class PlainView:
    """The occurrences by the words of points 9 to 12; `error` is what point 11 says of them, or None."""

    def __init__(self, packages, project, lock):
        self.packages, self.project, self.lock = packages, project, lock
        self.paths = []
        self.manifests = {}
        self.error = self._project_error() or self._levels()

    def wishes(self, path):
        return self.manifest(path)[2] if path else self.project

    def manifest(self, path):
        if path not in self.manifests:
            wish = (path[-1], dict(self.wishes(path[:-1]))[path[-1]])
            version = kept_version(self.packages, self.lock, wish)
            self.manifests[path] = find_package(self.packages, path[-1], version)
        return self.manifests[path]

    def sees(self, path, name):
        if name in dict(self.wishes(path)):
            return path + (name,)
        if path and name == path[-1]:
            return path
        if path and name in dict(self.manifest(path)[3]):
            return self.sees(path[:-1], name)
        return None

    def links(self, path):
        own = [(name, path + (name,)) for name in sorted(dict(self.wishes(path)))]
        peers = sorted(dict(self.manifest(path)[3])) if path else []
        return tuple(own + [(name, self.sees(path[:-1], name)) for name in peers])

    def package(self, path):
        return self.manifest(path)[:2]

    def _not_locked(self, wishes):
        for wish in sorted(wishes):
            if kept_version(self.packages, self.lock, wish) is None:
                return ("NotLocked",) + wish
        return None

    def _project_error(self):
        return self._not_locked(self.project)

    def _levels(self):
        level = sorted((name,) for name, _ in self.project)
        while level:
            for path in level:
                error = self._error(path)
                if error:
                    return error
                self.paths.append(path)
            level = sorted(path + (name,) for path in level for name, _ in self.wishes(path))
        return None

    def _error(self, path):
        if len(self.paths) >= 200:
            return ("TooMany",)
        if self.package(path) in [self.package(path[:many]) for many in range(1, len(path))]:
            return ("Cycle", path)
        for name, wanted in sorted(self.manifest(path)[3]):
            seen = self.sees(path[:-1], name)
            if seen is None:
                return ("MissingPeer", path + (name,))
            if not satisfies(self.package(seen)[1], wanted):
                return ("InvalidPeer", path + (name,))
        return self._not_locked(self.wishes(path))


def told(error):
    """An error of the program in the form in which PlainView tells it."""
    fields = [getattr(error, field) for field in ("name", "wanted", "path") if hasattr(error, field)]
    return (type(error).__name__, *fields)


def same_instance(view, one, other):
    """Whether no chain tells two occurrences apart: each pair that they lead to is of one package."""
    pairs, waiting = set(), [(one, other)]
    while waiting:
        first, second = waiting.pop()
        if view.package(first) != view.package(second):
            return False
        if (first, second) not in pairs:
            pairs.add((first, second))
            others = dict(view.links(second))
            waiting += [(to, others[name]) for name, to in view.links(first)]
    return True


def plain_chain(view, one, other):
    """The chain of point 17, looked for among all chains in their order."""
    if same_instance(view, one, other):
        return None
    chains = [((), one, other)]
    while True:
        for chain, first, second in chains:
            if view.package(first) != view.package(second):
                return chain
        chains = [(chain + (name,), to, dict(view.links(second))[name])
                  for chain, first, second in chains for name, to in view.links(first)]


def plain_instances(view):
    """For each occurrence the occurrences of its instance, as a tuple, breadth first."""
    return {path: tuple(other for other in view.paths if same_instance(view, path, other)) for path in view.paths}


def plain_shelf(view, manifest):
    """The shelf of the occurrences of a view, by the words of points 13 and 14; and the instance of each index."""
    instances = plain_instances(view)
    order = list(dict.fromkeys(instances[to] for _, to in view.links(())))
    for instance in order:
        order += [to for to in dict.fromkeys(instances[to] for _, to in view.links(instance[0])) if to not in order]
    rows = []
    for instance in order:
        name, version, wishes, peers = manifest(instance[0])
        links = [(to_name, order.index(instances[to])) for to_name, to in view.links(instance[0])]
        rows.append((name, version, tuple(links[:len(wishes)]), tuple(links[len(wishes):])))
        assert len(links) == len(wishes) + len(peers)
    return (tuple((name, order.index(instances[to])) for name, to in view.links(())), tuple(rows)), order


def plain_sight(shelf, at, name):
    """The index that an instance, or the project (None), sees in a shelf under a name, or None."""
    links = shelf[0] if at is None else shelf[1][at][2]
    if name in dict(links):
        return dict(links)[name]
    if at is None:
        return None
    return at if shelf[1][at][0] == name else dict(shelf[1][at][3]).get(name)


def plain_valid(packages, project, lock, shelf):
    """Whether what has the form of a shelf is valid, by the words of point 15."""
    links, instances = shelf
    def right(links, wishes):
        return dict(links).keys() == dict(wishes).keys() and all(
            instances[index][:2] == (name, kept_version(packages, lock, (name, dict(wishes)[name])))
            for name, index in links)
    for name, version, _, _ in instances:
        if not find_package(packages, name, version):
            return False
    for name, version, own, peers in instances:
        _, _, wishes, wanted = find_package(packages, name, version)
        if not right(own, wishes) or dict(peers).keys() != dict(wanted).keys():
            return False
        for peer, index in peers:
            if instances[index][0] != peer or not satisfies(instances[index][1], dict(wanted)[peer]):
                return False
    if not right(links, project):
        return False
    for at in (None, *range(len(instances))):
        for _, to in (links if at is None else instances[at][2]):
            for peer, index in instances[to][3]:
                if plain_sight(shelf, at, peer) != index:
                    return False
    found = {index for _, index in links}
    for _ in instances:
        found |= {to for index in found for _, to in instances[index][2] + instances[index][3]}
    return found == set(range(len(instances)))
