"""The keys of instances, and the steps of an installation. A disk is a dict from keys to whether they are complete."""

from peershelf.refining import reached
from peershelf.shelves import moved_instance, shelf_links

MAKE = "make"
COMPLETE = "complete"
SWITCH = "switch"


def key_of(instances, links, at):
    """The key of an instance: all that are reached from it, itself first, numbered breadth first."""
    numbers = reached([at], links)
    return tuple([moved_instance(instances[node], numbers) for node in numbers])


def shelf_keys(shelf):
    """The keys of the instances of a shelf, in their order."""
    links = shelf_links(shelf)
    return [key_of(shelf[1], links, at) for at in range(len(shelf[1]))]


def installation_steps(shelf, installed, disk):
    """The steps that lead to a shelf, each a pair of what is done and the key of the entry with which it is done."""
    steps = []
    for key in shelf_keys(shelf):
        if key not in disk:
            steps.append((MAKE, key))
        if not disk.get(key, False):
            steps.append((COMPLETE, key))
    if shelf != installed:
        steps.append((SWITCH, None))
    return steps


def made_in(steps):
    """How many entries steps make."""
    return len([key for kind, key in steps if kind == MAKE])


def first_failure(steps, outcomes):
    """How many of some steps come ahead of the first one whose script fails; None if none does."""
    scripts = [at for at, (kind, _) in enumerate(steps) if kind == COMPLETE]
    for at, succeeds in zip(scripts, outcomes):
        if not succeeds:
            return at
    return None


def disk_after(disk, steps):
    """The disk when some steps are performed."""
    after = {key: disk[key] for key in disk}
    for kind, key in steps:
        if kind != SWITCH:
            after[key] = kind == COMPLETE
    return after
