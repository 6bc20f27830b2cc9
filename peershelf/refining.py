"""Nodes with named links: what chains of these names tell apart, and what they reach.

Nodes are numbered from 0. Each one has a label, and a dict that tells, in the order of its links, for each name the
node to which this link leads. Nodes with the same label have links with the same names, in the same order.
"""


def numbered(values):
    """For each value a number, from 0, in the order in which different values come first."""
    numbers = {}
    for value in values:
        numbers.setdefault(value, len(numbers))
    return [numbers[value] for value in values]


def refine(labels, links):
    """Rounds of classes, one for each node: in round r, nodes that no chain of at most r names tells apart are in one.

    In the last round no chain at all does. The classes of a round are numbered in the order of their first nodes.
    """
    rounds = [numbered(labels)]
    while True:
        coarse = rounds[-1]
        fine = numbered([(own, tuple([coarse[to] for to in links[at].values()])) for at, own in enumerate(coarse)])
        # Classes are only ever divided, so as long as none is, each keeps its number.
        if fine == coarse:
            return rounds
        rounds.append(fine)


def first_name_apart(classes, links, others):
    """The first name with which the links of two nodes lead to different classes."""
    return [name for name, node in links.items() if classes[node] != classes[others[name]]][0]


def telling_chain(rounds, links, one, other):
    """The first one of the shortest chains that tell two nodes apart, or None if there is none."""
    lengths = [length for length, classes in enumerate(rounds) if classes[one] != classes[other]]
    if not lengths:
        return None
    chain = []
    # What is told apart first in round r has links to what is told apart first in round r - 1.
    for length in reversed(range(lengths[0])):
        name = first_name_apart(rounds[length], links[one], links[other])
        chain.append(name)
        one, other = links[one][name], links[other][name]
    return tuple(chain)


def chain_end(links, node, chain):
    """The node to which a chain leads from a node, or None if it leads nowhere."""
    for name in chain:
        if name not in links[node]:
            return None
        node = links[node][name]
    return node


def reached(starts, links):
    """For each node that is reached from some nodes its number in the order in which this happens, breadth first."""
    numbers = {}
    waiting = list(starts)
    at = 0
    while at < len(waiting):
        node = waiting[at]
        at += 1
        if node not in numbers:
            numbers[node] = len(numbers)
            waiting.extend(list(links[node].values()))
    return numbers
