"""The order of chains of points 12 and 17, and the order in which nodes are reached, on nodes made for it."""

import unittest

from peershelf.refining import chain_end, reached, refine, telling_chain


class Chains(unittest.TestCase):
    # From 0 and 1, the first chain by the order of the links begins with "z", the first one by its text with "a".
    LABELS = ["m", "m", "k", "k", "p", "q"]
    LINKS = [{"z": 2, "a": 2}, {"z": 3, "a": 3}, {"y": 4, "b": 4}, {"y": 5, "b": 5}, {}, {}]

    def test_the_order_of_the_links_not_of_the_names(self):
        rounds = refine(self.LABELS, self.LINKS)
        self.assertEqual(telling_chain(rounds, self.LINKS, 0, 1), ("z", "y"))
        self.assertEqual(telling_chain(rounds, self.LINKS, 2, 3), ("y",))

    def test_a_shorter_one_behind(self):
        links = [{"z": 2, "a": 4}, {"z": 3, "a": 5}] + self.LINKS[2:]
        self.assertEqual(telling_chain(refine(self.LABELS, links), links, 0, 1), ("a",))

    def test_labels_alone(self):
        rounds = refine(self.LABELS, self.LINKS)
        self.assertEqual(telling_chain(rounds, self.LINKS, 0, 2), ())
        self.assertIsNone(telling_chain(rounds, self.LINKS, 0, 0))

    def test_classes_are_numbered_in_the_order_of_their_first_nodes(self):
        self.assertEqual(refine(["b", "a", "b", "a"], [{"n": 1}, {}, {"n": 3}, {}]), [[0, 1, 0, 1]])
        self.assertEqual(refine(self.LABELS, self.LINKS),
                         [[0, 0, 1, 1, 2, 3], [0, 0, 1, 2, 3, 4], [0, 1, 2, 3, 4, 5]])

    def test_long_chains_of_nodes(self):
        # A ring of 60 nodes, of which one has another label: the more steps to it, the longer the chain.
        labels = ["n"] * 59 + ["end"]
        links = [{"on": (at + 1) % 60} for at in range(60)]
        rounds = refine(labels, links)
        self.assertEqual(rounds[-1], list(range(60)))
        self.assertEqual(telling_chain(rounds, links, 0, 1), ("on",) * 58)

    def test_where_a_chain_leads(self):
        self.assertEqual(chain_end(self.LINKS, 0, ()), 0)
        self.assertEqual(chain_end(self.LINKS, 0, ("z", "y")), 4)
        self.assertIsNone(chain_end(self.LINKS, 0, ("z", "y", "y")))
        self.assertIsNone(chain_end(self.LINKS, 0, ("y",)))


class Reaching(unittest.TestCase):
    def test_breadth_first(self):
        links = [{"a": 3, "b": 4}, {}, {"c": 1, "a": 0}, {"x": 5}, {"x": 2}, {}]
        self.assertEqual(list(reached([2], links).items()), [(2, 0), (1, 1), (0, 2), (3, 3), (4, 4), (5, 5)])
        self.assertEqual(list(reached([4, 3, 4], links)), [4, 3, 2, 5, 1, 0])
        self.assertEqual(reached([], links), {})
