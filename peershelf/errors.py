"""All errors of peershelf. Those with fields keep them as their message, too, as ValueError does."""


class ShelfError(ValueError):
    """The base of all errors."""


class NoVersion(ShelfError):
    """No package is a candidate of a dependency."""

    def __init__(self, name, wanted):
        self.name = name
        self.wanted = wanted


class NotLocked(ShelfError):
    """A lock does not keep a dependency."""

    def __init__(self, name, wanted):
        self.name = name
        self.wanted = wanted


class Cycle(ShelfError):
    """An occurrence has the package of one ahead of it on its path."""

    def __init__(self, path):
        self.path = path


class MissingPeer(ShelfError):
    """The dependent of an occurrence sees nothing under the name of a peer."""

    def __init__(self, path):
        self.path = path


class InvalidPeer(ShelfError):
    """The dependent of an occurrence sees a version that the range of a peer excludes."""

    def __init__(self, path):
        self.path = path


class NoSuchPath(ShelfError):
    """A path is no occurrence."""

    def __init__(self, path):
        self.path = path


class BadVersion(ShelfError):
    """A value is no version."""


class BadRange(ShelfError):
    """A value is no range."""


class BadPackages(ShelfError):
    """A value is no tuple of packages, or no manifest."""


class BadProject(ShelfError):
    """A value is no project, or no dependency of one."""


class BadLock(ShelfError):
    """A value is no lock."""


class TooMany(ShelfError):
    """There are more occurrences, packages or dependencies than there may be."""


class AlreadyPublished(ShelfError):
    """A package with this name and version was published before."""


class NotPublished(ShelfError):
    """No package has this name and version."""


class NoSuchDependency(ShelfError):
    """A project has no dependency with this name."""


class DiskFull(ShelfError):
    """The disk would have more entries than it may have."""
