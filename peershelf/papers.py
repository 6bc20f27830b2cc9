"""Papers that show what two occurrences or a shelf are, judges who need not search, and makers of papers."""

from peershelf.manifests import are_texts, check_all, is_tuple_of
from peershelf.occurrences import View
from peershelf.refining import chain_end, refine, telling_chain
from peershelf.shelves import build, is_valid, moved_instance, moved_links, shelf_links, shelf_packages
from peershelf.shelves import tell_apart, view_links, view_packages

APART = "apart"
SAME = "same"
FEWEST = "fewest"
FOLDS = "folds"
ONTO = "onto"


def is_paper(value, kind, many):
    """Whether a value is a tuple with so many items, the first of them the word for a kind of paper."""
    return is_tuple_of(value, many) and type(value[0]) == str and value[0] == kind


def tells_apart(labels, links, one, other, chain):
    """Whether a value is a chain that leads from two nodes to nodes with different labels."""
    if not are_texts(chain):
        return False
    first, second = chain_end(links, one, chain), chain_end(links, other, chain)
    return first is not None and second is not None and labels[first] != labels[second]


def behind_pair(view, pair):
    """The pairs of the occurrences to which links with the same name lead from two occurrences of one package."""
    first, second = pair
    return [(to, other_to) for (_, to), (_, other_to) in zip(view.links(first), view.links(second))]


def is_pair(view, value):
    """Whether a value is a pair of occurrences of the same package."""
    if not is_tuple_of(value, 2) or not view.knows(value[0]) or not view.knows(value[1]):
        return False
    return view.package(value[0]) == view.package(value[1])


def shows_same(view, one, other, pairs):
    """Whether a value is a tuple of pairs that shows that two occurrences are of the same instance."""
    if type(pairs) != tuple or not all([is_pair(view, pair) for pair in pairs]):
        return False
    known = set(pairs)
    if (one, other) not in known:
        return False
    return all([behind in known for pair in pairs for behind in behind_pair(view, pair)])


def judge_apart(packages, project, lock, one, other, paper):
    """Whether a paper on two occurrences is taken; raises the errors of View, then NoSuchPath."""
    view = View(packages, project, lock)
    view.check_path(one)
    view.check_path(other)
    if is_paper(paper, APART, 2):
        first, second = view.paths.index(one), view.paths.index(other)
        return tells_apart(view_packages(view), view_links(view), first, second, paper[1])
    return is_paper(paper, SAME, 2) and shows_same(view, one, other, paper[1])


def same_pairs(view, one, other):
    """All pairs of occurrences to which a chain leads from two occurrences of the same instance."""
    waiting = [(one, other)]
    found = {}
    at = 0
    while at < len(waiting):
        pair = waiting[at]
        at += 1
        if pair not in found:
            found[pair] = True
            waiting.extend(behind_pair(view, pair))
    return tuple(found)


def explain_apart(packages, project, lock, one, other):
    """A paper on two occurrences; raises the errors of View, then NoSuchPath."""
    chain = tell_apart(packages, project, lock, one, other)
    if chain is None:
        return (SAME, same_pairs(View(packages, project, lock), one, other))
    return (APART, chain)


def pairs_of_one_package(labels):
    """The pairs of places i < j with the same label, by i, then by j."""
    return [(i, j) for i, label in enumerate(labels) for j in range(i + 1, len(labels)) if labels[j] == label]


def shows_fewest(shelf, chains):
    """Whether a value is a tuple of the chains that tell apart all instances of one package of a valid shelf."""
    labels, links = shelf_packages(shelf), shelf_links(shelf)
    pairs = pairs_of_one_package(labels)
    if not is_tuple_of(chains, len(pairs)):
        return False
    return all([tells_apart(labels, links, i, j, chain) for (i, j), chain in zip(pairs, chains)])


def are_images(value, many, most):
    """Whether a value is a tuple of so many indices, each below a number."""
    return is_tuple_of(value, many) and all([type(index) == int and 0 <= index < most for index in value])


def is_map(shelf, other, images):
    """Whether a value tells a map of a valid shelf to another one that keeps names, versions and links."""
    links, instances = shelf
    other_links, others = other
    if not are_images(images, len(instances), len(others)):
        return False
    if moved_links(links, images) != other_links:
        return False
    return all([moved_instance(instance, images) == others[image] for instance, image in zip(instances, images)])


def judge_fewest(packages, project, lock, shelf, paper):
    """Whether a paper on whether a shelf has the fewest instances is taken; raises BadPackages, BadProject, BadLock."""
    if not is_valid(packages, project, lock, shelf):
        return False
    if is_paper(paper, FEWEST, 2):
        return shows_fewest(shelf, paper[1])
    if not is_paper(paper, FOLDS, 3) or not is_valid(packages, project, lock, paper[1]):
        return False
    return len(paper[1][1]) < len(shelf[1]) and is_map(shelf, paper[1], paper[2])


def folded(shelf, classes):
    """The shelf of the classes of instances of a valid shelf."""
    links, instances = shelf
    firsts = {}
    for instance, number in zip(instances, classes):
        firsts.setdefault(number, moved_instance(instance, classes))
    return (moved_links(links, classes), tuple(firsts.values()))


def explain_fewest(packages, project, lock, shelf):
    """A paper on whether a valid shelf has the fewest instances; raises BadPackages, BadProject, BadLock."""
    check_all(packages, project, lock)
    labels, links = shelf_packages(shelf), shelf_links(shelf)
    rounds = refine(labels, links)
    other = folded(shelf, rounds[-1])
    if len(other[1]) < len(shelf[1]):
        return (FOLDS, other, tuple(rounds[-1]))
    return (FEWEST, tuple([telling_chain(rounds, links, i, j) for i, j in pairs_of_one_package(labels)]))


def judge_onto(packages, project, lock, shelf, paper):
    """Whether a paper on how a shelf belongs to that of the project is taken; raises the errors of View."""
    built = build(packages, project, lock)
    if not is_valid(packages, project, lock, shelf) or not is_paper(paper, ONTO, 2):
        return False
    return is_map(shelf, built, paper[1])


def explain_onto(packages, project, lock, shelf):
    """A paper on how a valid shelf belongs to that of the project; raises the errors of View."""
    built = build(packages, project, lock)
    links, built_links = shelf_links(shelf), shelf_links(built)
    images = {}
    waiting = [(index, image) for (_, index), (_, image) in zip(shelf[0], built[0])]
    while waiting:
        index, image = waiting.pop()
        if index not in images:
            images[index] = image
            waiting.extend([(to, built_links[image][name]) for name, to in links[index].items()])
    return (ONTO, tuple([images[index] for index in range(len(shelf[1]))]))
