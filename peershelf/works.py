"""Works: a registry of packages, three projects, and the disk on which their shelves are installed."""

from peershelf.errors import AlreadyPublished, BadProject, DiskFull, NoSuchDependency, NotPublished, TooMany
from peershelf.installing import SWITCH, disk_after, first_failure, installation_steps, made_in, shelf_keys
from peershelf.manifests import MOST_DEPENDENCIES, MOST_PACKAGES
from peershelf.manifests import check_packages, is_dependency, is_name, manifest_of, names_of, package_order
from peershelf.refining import chain_end
from peershelf.resolving import resolve
from peershelf.shelves import build, shelf_links, shelf_packages
from peershelf.versions import is_version

MOST_DISK_ENTRIES = 1000


def with_item(items, at, value):
    """A tuple like another one, but for one item."""
    return items[:at] + (value,) + items[at + 1:]


def without_dependency(dependencies, name):
    """Dependencies without the one with a name; raises NoSuchDependency."""
    if not is_name(name) or name not in names_of(dependencies):
        raise NoSuchDependency("the project has no dependency with this name")
    return tuple([dependency for dependency in dependencies if dependency[0] != name])


def with_dependency(dependencies, name, wanted):
    """Dependencies, by name, with a range for a name; raises BadProject, TooMany."""
    if not is_dependency((name, wanted)):
        raise BadProject("this is no name, or no range")
    others = [dependency for dependency in dependencies if dependency[0] != name]
    if len(others) >= MOST_DEPENDENCIES:
        raise TooMany(f"a project has at most {MOST_DEPENDENCIES} dependencies")
    return tuple(sorted(others + [(name, wanted)]))


def entry_order(row):
    """What orders entries by name, by version, incomplete ones first."""
    return (package_order(row), row[2])


class Trial:
    """A try of works, for a "with" statement: behind it they are as they were when the trial was made."""

    def __init__(self, works):
        self._works = works
        self._published = works._published
        self._withdrawn = works._withdrawn
        self._disk = works._disk
        self._projects = works.projects
        self._locks = works.locks
        self._shelves = works.shelves

    def __enter__(self):
        return self._works

    def __exit__(self, kind, value, trace):
        works = self._works
        works._published = self._published
        works._withdrawn = self._withdrawn
        works._disk = self._disk
        works.projects = self._projects
        works.locks = self._locks
        works.shelves = self._shelves


class Works:
    """A registry, the projects 0, 1 and 2, and a disk.

    Nothing that an attribute holds is ever modified, only replaced: so a trial need not copy it.
    """

    def __init__(self):
        self.projects = ((), (), ())
        self.locks = ((), (), ())
        self.shelves = (None, None, None)
        self._published = ()
        self._withdrawn = ()
        self._disk = {}

    def __len__(self):
        return len(self._disk)

    def packages(self):
        """The manifests that were published and not withdrawn."""
        return tuple([manifest for manifest in self._published if manifest[:2] not in self._withdrawn])

    def publish(self, manifest):
        """Publish a manifest, and give the number of packages; raises BadPackages, AlreadyPublished, TooMany."""
        check_packages((manifest,))
        if manifest_of(self._published, manifest[0], manifest[1]) is not None:
            raise AlreadyPublished("a manifest with this name and this version was published before")
        if len(self._published) >= MOST_PACKAGES:
            raise TooMany(f"at most {MOST_PACKAGES} manifests are published, withdrawn ones included")
        self._published = self._published + (manifest,)
        return len(self.packages())

    def withdraw(self, name, version):
        """Withdraw a package, and give the number of packages; raises NotPublished."""
        if not is_name(name) or not is_version(version) or manifest_of(self.packages(), name, version) is None:
            raise NotPublished("there is no package with this name and this version")
        self._withdrawn = self._withdrawn + ((name, version),)
        return len(self.packages())

    def set_dependency(self, project, name, wanted):
        """Set the range of a dependency, or with None remove it; gives the dependencies.

        Raises BadProject, TooMany; with None, NoSuchDependency.
        """
        dependencies = self.projects[project]
        if wanted is None:
            dependencies = without_dependency(dependencies, name)
        else:
            dependencies = with_dependency(dependencies, name, wanted)
        self.projects = with_item(self.projects, project, dependencies)
        return dependencies

    def update(self, project, names):
        """Resolve a project anew by its lock without what it has for some names; gives the lock. Raises NoVersion."""
        rest = tuple([entry for entry in self.locks[project] if entry[0] not in names])
        lock = resolve(self.packages(), self.projects[project], rest)
        self.locks = with_item(self.locks, project, lock)
        return lock

    def install(self, project, outcomes=(), *, most=1000):
        """Perform at most so many steps of an installation; gives ("left", n), or ("failed", name, version).

        Raises NoVersion, the errors of View, DiskFull, ahead of any change.
        """
        lock, shelf, steps = self._plan(project)
        performed = steps[:max(0, most)]
        failed = first_failure(performed, outcomes)
        if failed is not None:
            performed = performed[:failed]
        self.locks = with_item(self.locks, project, lock)
        self._disk = disk_after(self._disk, performed)
        if (SWITCH, None) in performed:
            self.shelves = with_item(self.shelves, project, shelf)
        if failed is None:
            return ("left", len(steps) - len(performed))
        _, key = steps[failed]
        return ("failed",) + key[0][:2]

    def follow(self, project, names):
        """The package to which links with these names lead in the installed shelf, or None."""
        shelf = self.shelves[project]
        if shelf is None or not names:
            return None
        start = dict(shelf[0]).get(names[0])
        if start is None:
            return None
        end = chain_end(shelf_links(shelf), start, names[1:])
        return None if end is None else shelf_packages(shelf)[end]

    def status(self, project):
        """The dependencies, the lock, the installed shelf, and how many steps an installation would have.

        Raises what install raises.
        """
        _, _, steps = self._plan(project)
        return (self.projects[project], self.locks[project], self.shelves[project], len(steps))

    def entries(self):
        """The entries of the disk: their names, their versions, and whether they are complete."""
        rows = [key[0][:2] + (complete,) for key, complete in self._disk.items()]
        return tuple(sorted(rows, key=entry_order))

    def collect(self):
        """Remove the entries that are of no instance of an installed shelf; gives how many."""
        used = [key for shelf in self.shelves if shelf is not None for key in shelf_keys(shelf)]
        disk = {key: self._disk[key] for key in used}
        removed = len(self._disk) - len(disk)
        self._disk = disk
        return removed

    def tried(self):
        """A trial of these works, for a "with" statement."""
        return Trial(self)

    def foresee(self, project, outcomes=(), *, most=1000):
        """What an installation would give, or raise; it changes nothing."""
        with self.tried() as works:
            return works.install(project, outcomes, most=most)

    def _plan(self, project):
        """The lock, the shelf and the steps of an installation; raises NoVersion, the errors of View, DiskFull."""
        packages, dependencies = self.packages(), self.projects[project]
        lock = resolve(packages, dependencies, self.locks[project])
        shelf = build(packages, dependencies, lock)
        steps = installation_steps(shelf, self.shelves[project], self._disk)
        if len(self._disk) + made_in(steps) > MOST_DISK_ENTRIES:
            raise DiskFull(f"the disk has at most {MOST_DISK_ENTRIES} entries")
        return lock, shelf, steps
