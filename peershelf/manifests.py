"""Packages, projects and locks: what they are, and which manifest a package has."""

from peershelf.errors import BadLock, BadPackages, BadProject
from peershelf.versions import is_range, is_version, version_numbers

LETTERS = "abcdefghijklmnopqrstuvwxyz"
NAME_SIGNS = "abcdefghijklmnopqrstuvwxyz0123456789-"
MOST_SIGNS = 12
MOST_DEPENDENCIES = 6
MOST_PACKAGES = 16
# As many as can be reached: those of a project, and those of each package.
MOST_ENTRIES = 102


def is_name(value):
    """Whether a value is a name."""
    # Not isinstance, here and below: a value of a derived class may answer anything, or raise.
    if type(value) != str or not 1 <= len(value) <= MOST_SIGNS:
        return False
    return value[0] in LETTERS and all([sign in NAME_SIGNS for sign in value])


def is_tuple_of(value, many):
    """Whether a value is a tuple with so many items."""
    return type(value) == tuple and len(value) == many


def is_tuple_up_to(value, most):
    """Whether a value is a tuple with at most so many items."""
    return type(value) == tuple and len(value) <= most


def are_texts(value):
    """Whether a value is a tuple of texts."""
    return type(value) == tuple and all([type(item) == str for item in value])


def all_different(members):
    """Whether no two of these texts, or tuples of texts, are the same."""
    return len(set(members)) == len(members)


def names_of(dependencies):
    """The names of dependencies, as a list."""
    return [name for name, _ in dependencies]


def is_dependency(value):
    """Whether a value is a dependency."""
    return is_tuple_of(value, 2) and is_name(value[0]) and is_range(value[1])


def are_dependencies(value):
    """Whether a value is a tuple of not too many dependencies; their names may be the same."""
    return is_tuple_up_to(value, MOST_DEPENDENCIES) and all([is_dependency(item) for item in value])


def is_manifest(value):
    """Whether a value is a manifest."""
    if not is_tuple_of(value, 4):
        return False
    name, version, dependencies, peers = value
    if not is_name(name) or not is_version(version):
        return False
    if not are_dependencies(dependencies) or not are_dependencies(peers):
        return False
    return all_different([name] + names_of(dependencies) + names_of(peers))


def is_entry(value):
    """Whether a value is an entry of a lock."""
    return is_tuple_of(value, 3) and is_name(value[0]) and is_range(value[1]) and is_version(value[2])


def check_packages(value):
    """Raise BadPackages for what are no packages."""
    if not is_tuple_up_to(value, MOST_PACKAGES) or not all([is_manifest(item) for item in value]):
        raise BadPackages(f"packages are a tuple of at most {MOST_PACKAGES} manifests")
    if not all_different([manifest[:2] for manifest in value]):
        raise BadPackages("two manifests have the same name and the same version")


def check_project(value):
    """Raise BadProject for what is no project."""
    if not are_dependencies(value):
        raise BadProject(f"a project is a tuple of at most {MOST_DEPENDENCIES} dependencies")
    if not all_different(names_of(value)):
        raise BadProject("two dependencies have the same name")


def check_lock(value):
    """Raise BadLock for what is no lock."""
    if not is_tuple_up_to(value, MOST_ENTRIES) or not all([is_entry(item) for item in value]):
        raise BadLock(f"a lock is a tuple of at most {MOST_ENTRIES} entries")
    if not all_different([entry[:2] for entry in value]):
        raise BadLock("two entries have the same name and the same range")


def check_all(packages, project, lock):
    """Raise BadPackages, BadProject, BadLock for what is none, in this order."""
    check_packages(packages)
    check_project(project)
    check_lock(lock)


def package_order(row):
    """What orders tuples that begin with a name and a version, by name and then by version."""
    return (row[0], version_numbers(row[1]))


def manifest_of(packages, name, version):
    """The manifest of a package, or None; the packages are checked already."""
    for manifest in packages:
        if manifest[:2] == (name, version):
            return manifest
    return None


def find_package(packages, name, version):
    """The manifest of a package, or None; raises BadPackages."""
    check_packages(packages)
    return manifest_of(packages, name, version)
