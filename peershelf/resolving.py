"""Which versions the dependencies of a project resolve to."""

from peershelf.errors import NoVersion
from peershelf.manifests import check_all, check_lock, check_packages, manifest_of
from peershelf.versions import satisfies, version_numbers


def candidate_versions(packages, dependency):
    """The versions of the candidates of a dependency, as a list."""
    name, wanted = dependency
    versions = [manifest[1] for manifest in packages if manifest[0] == name]
    return [version for version in versions if satisfies(version, wanted)]


def locked_version(packages, lock, dependency):
    """The version that a lock keeps for a dependency, or None; packages and lock are checked already."""
    for name, wanted, version in lock:
        if (name, wanted) == dependency and version in candidate_versions(packages, dependency):
            return version
    return None


def all_locked_versions(packages, project, lock):
    """For each dependency of a project and of packages the version that a lock keeps, or None; all are checked."""
    dependencies = list(project)
    for manifest in packages:
        dependencies.extend(manifest[2])
    return {dependency: locked_version(packages, lock, dependency) for dependency in dependencies}


def kept_version(packages, lock, dependency):
    """The version that a lock keeps for a dependency, or None; raises BadPackages, BadLock."""
    check_packages(packages)
    check_lock(lock)
    return locked_version(packages, lock, dependency)


def resolved_version(packages, lock, dependency):
    """The version that a dependency resolves to; raises NoVersion."""
    kept = locked_version(packages, lock, dependency)
    if kept is not None:
        return kept
    candidates = candidate_versions(packages, dependency)
    if not candidates:
        name, wanted = dependency
        raise NoVersion(name, wanted)
    return max(candidates, key=version_numbers)


def resolve(packages, project, lock):
    """The lock that a project resolves to; raises BadPackages, BadProject, BadLock, NoVersion."""
    check_all(packages, project, lock)
    resolved = {}
    waiting = sorted(project)
    at = 0
    while at < len(waiting):
        dependency = waiting[at]
        at += 1
        if dependency not in resolved:
            version = resolved_version(packages, lock, dependency)
            resolved[dependency] = version
            waiting.extend(sorted(manifest_of(packages, dependency[0], version)[2]))
    return tuple([(name, wanted, resolved[name, wanted]) for name, wanted in sorted(resolved)])
