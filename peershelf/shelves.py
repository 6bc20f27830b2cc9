"""The shelf of a project: its instances with the links between them; and which shelves are valid."""

from peershelf.manifests import check_all, is_tuple_of, manifest_of, names_of, package_order
from peershelf.occurrences import View
from peershelf.refining import reached, refine, telling_chain
from peershelf.resolving import all_locked_versions
from peershelf.versions import satisfies


def view_packages(view):
    """The package of each occurrence."""
    return [view.package(path) for path in view.paths]


def view_links(view):
    """For each occurrence its links, as a dict of names and places of occurrences."""
    places = {path: at for at, path in enumerate(view.paths)}
    return [{name: places[to] for name, to in view.links(path)} for path in view.paths]


def shelf_packages(shelf):
    """The package of each instance of a shelf."""
    return [instance[:2] for instance in shelf[1]]


def shelf_links(shelf):
    """For each instance of a shelf its links, as a dict of names and indices."""
    return [dict(links + peers) for _, _, links, peers in shelf[1]]


def moved_links(links, images):
    """Links that lead to the images of what they led to."""
    return tuple([(name, images[to]) for name, to in links])


def moved_instance(instance, images):
    """An instance whose links lead to the images of what they led to."""
    name, version, links, peers = instance
    return (name, version, moved_links(links, images), moved_links(peers, images))


def instance_indices(view):
    """For each occurrence, breadth first, the index of its instance.

    The classes are numbered in the order of their first occurrences. Instances have the same order: what links lead to
    is the same for all occurrences of a class, so the first one reaches it first; and a peer is reached ahead of those
    that share it, because it is an occurrence ahead of them or beside them.
    """
    rounds = refine(view_packages(view), view_links(view))
    return {path: rounds[-1][at] for at, path in enumerate(view.paths)}


def first_occurrences(view, indices):
    """The first occurrence of each instance."""
    firsts = {}
    for path in view.paths:
        firsts.setdefault(indices[path], path)
    return list(firsts.values())


def instance_of(view, indices, path):
    """The instance of an occurrence."""
    name, version = view.package(path)
    links = moved_links(view.dependency_links(path), indices)
    return (name, version, links, moved_links(view.peer_links(path), indices))


def build(packages, project, lock):
    """The shelf of a project; raises the errors of View."""
    view = View(packages, project, lock)
    indices = instance_indices(view)
    instances = [instance_of(view, indices, path) for path in first_occurrences(view, indices)]
    return (moved_links(view.links(()), indices), tuple(instances))


def shelf_indices(packages, project, lock):
    """For each occurrence, breadth first, a pair of it and the index of its instance; raises the errors of View."""
    indices = instance_indices(View(packages, project, lock))
    return tuple(indices.items())


def duplicates(packages, project, lock):
    """The packages with several instances, each with their first occurrences; raises the errors of View."""
    view = View(packages, project, lock)
    found = {}
    for path in first_occurrences(view, instance_indices(view)):
        found.setdefault(view.package(path), []).append(path)
    several = [(name, version, tuple(paths)) for (name, version), paths in found.items() if len(paths) > 1]
    return tuple(sorted(several, key=package_order))


def tell_apart(packages, project, lock, one, other):
    """The chain that tells two occurrences apart, or None; raises the errors of View, then NoSuchPath."""
    view = View(packages, project, lock)
    view.check_path(one)
    view.check_path(other)
    links = view_links(view)
    rounds = refine(view_packages(view), links)
    return telling_chain(rounds, links, view.paths.index(one), view.paths.index(other))


def is_link(value, many):
    """Whether a value is a link to one of so many instances."""
    if not is_tuple_of(value, 2) or type(value[0]) != str:
        return False
    return type(value[1]) == int and 0 <= value[1] < many


def are_links(value, many):
    """Whether a value is a tuple of links, by name, to so many instances."""
    if type(value) != tuple or not all([is_link(item, many) for item in value]):
        return False
    names = names_of(value)
    return names == sorted(set(names))


def is_instance(value, many):
    """Whether a value is an instance, one of so many."""
    if not is_tuple_of(value, 4) or type(value[0]) != str or type(value[1]) != str:
        return False
    return are_links(value[2], many) and are_links(value[3], many)


def is_shelf(value):
    """Whether a value, whatever it is, is a shelf."""
    if not is_tuple_of(value, 2) or type(value[1]) != tuple:
        return False
    many = len(value[1])
    return are_links(value[0], many) and all([is_instance(item, many) for item in value[1]])


def lead_to_locked(links, dependencies, locked, instances):
    """Whether links are just those to these dependencies, and lead to the versions that the lock keeps."""
    if names_of(links) != sorted(names_of(dependencies)):
        return False
    versions = {name: locked[name, wanted] for name, wanted in dependencies}
    return all([instances[index][:2] == (name, versions[name]) for name, index in links])


def lead_to_peers(links, peers, instances):
    """Whether links are just those to these peers, and lead to versions that satisfy their ranges."""
    if names_of(links) != sorted(names_of(peers)):
        return False
    ranges = dict(peers)
    targets = [(name, instances[index]) for name, index in links]
    return all([target[0] == name and satisfies(target[1], ranges[name]) for name, target in targets])


def are_instances(instances, packages, locked):
    """Whether each instance is one of the packages, with links to what this one asks for."""
    manifests = [manifest_of(packages, instance[0], instance[1]) for instance in instances]
    # All of them first: whether a version satisfies a range cannot be asked of what is none.
    if None in manifests:
        return False
    for (_, _, dependencies, peers), (_, _, links, peer_links) in zip(manifests, instances):
        if not lead_to_locked(links, dependencies, locked, instances):
            return False
        if not lead_to_peers(peer_links, peers, instances):
            return False
    return True


def share_peers(links, seen, instances):
    """Whether each peer of the instances to which links to dependencies lead is what their dependent sees."""
    peers = [peer for _, index in links for peer in instances[index][3]]
    return all([seen.get(name) == index for name, index in peers])


def all_share_peers(shelf):
    """Whether each peer of each instance is what each dependent of this one sees."""
    links, instances = shelf
    if not share_peers(links, dict(links), instances):
        return False
    for at, (name, _, own_links, peers) in enumerate(instances):
        # The names are all different, so none of them hides another one.
        seen = dict(own_links + ((name, at),) + peers)
        if not share_peers(own_links, seen, instances):
            return False
    return True


def is_valid(packages, project, lock, shelf):
    """Whether a value, whatever it is, is a valid shelf; raises BadPackages, BadProject, BadLock."""
    check_all(packages, project, lock)
    if not is_shelf(shelf):
        return False
    links, instances = shelf
    locked = all_locked_versions(packages, project, lock)
    if not are_instances(instances, packages, locked) or not lead_to_locked(links, project, locked, instances):
        return False
    if not all_share_peers(shelf):
        return False
    starts = [index for _, index in links]
    return len(reached(starts, shelf_links(shelf))) == len(instances)
