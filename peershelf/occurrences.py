"""The occurrences of a project: what they see, and where their links lead."""

from peershelf.errors import Cycle, InvalidPeer, MissingPeer, NoSuchPath, NotLocked, TooMany
from peershelf.manifests import are_texts, check_all, manifest_of, names_of
from peershelf.resolving import all_locked_versions
from peershelf.versions import satisfies

MOST_OCCURRENCES = 200


class View:
    """The occurrences of a project; raises BadPackages, BadProject, BadLock, then the errors of occurrences."""

    def __init__(self, packages, project, lock):
        check_all(packages, project, lock)
        self._names = sorted(names_of(project))
        self._manifests = {}
        locked = all_locked_versions(packages, project, lock)
        waiting = self._enter((), project, packages, locked)
        at = 0
        while at < len(waiting):
            if at >= MOST_OCCURRENCES:
                raise TooMany(f"a project has at most {MOST_OCCURRENCES} occurrences")
            path = waiting[at]
            self._check_cycle(path)
            self._check_peers(path)
            waiting.extend(self._enter(path, self._manifests[path][2], packages, locked))
            at += 1
        self.paths = tuple(waiting)

    def __iter__(self):
        return iter(self.paths)

    def __len__(self):
        return len(self.paths)

    def package(self, path):
        """The name and the version of an occurrence."""
        return self._manifests[path][:2]

    def sees(self, path, name):
        """The occurrence that an occurrence, or the project, sees under a name, or None."""
        while path != ():
            own_name, _, dependencies, peers = self._manifests[path]
            if name in names_of(dependencies):
                return path + (name,)
            if name == own_name:
                return path
            if name not in names_of(peers):
                return None
            path = path[:-1]
        return (name,) if name in self._names else None

    def links(self, path):
        """The links of an occurrence, or of the project: names and occurrences."""
        return self.dependency_links(path) + self.peer_links(path)

    def dependency_links(self, path):
        """Those of the links that lead to dependencies."""
        names = self._names if path == () else sorted(names_of(self._manifests[path][2]))
        return tuple([(name, path + (name,)) for name in names])

    def peer_links(self, path):
        """Those of the links that lead to peers."""
        names = [] if path == () else sorted(names_of(self._manifests[path][3]))
        return tuple([(name, self.sees(path[:-1], name)) for name in names])

    def knows(self, value):
        """Whether a value, whatever it is, is an occurrence."""
        return are_texts(value) and value in self._manifests

    def check_path(self, value):
        """Raise NoSuchPath for what is no occurrence."""
        if not self.knows(value):
            raise NoSuchPath(value)

    def _enter(self, path, dependencies, packages, locked):
        """Enter the occurrences of dependencies behind a path, and return them by name; raises NotLocked."""
        behind = []
        for name, wanted in sorted(dependencies):
            version = locked[name, wanted]
            if version is None:
                raise NotLocked(name, wanted)
            # Entered ahead of being looked at: a peer may be an occurrence further behind.
            self._manifests[path + (name,)] = manifest_of(packages, name, version)
            behind.append(path + (name,))
        return behind

    def _check_cycle(self, path):
        """Raise Cycle for an occurrence with the package of one ahead of it on its path."""
        ahead = [self.package(path[:many]) for many in range(1, len(path))]
        if self.package(path) in ahead:
            raise Cycle(path)

    def _check_peers(self, path):
        """Raise MissingPeer or InvalidPeer for the first wrong peer of an occurrence."""
        for name, wanted in sorted(self._manifests[path][3]):
            seen = self.sees(path[:-1], name)
            if seen is None:
                raise MissingPeer(path + (name,))
            if not satisfies(self.package(seen)[1], wanted):
                raise InvalidPeer(path + (name,))


def occurrences(packages, project, lock):
    """The occurrences of a project, breadth first; raises what View raises."""
    return View(packages, project, lock).paths
