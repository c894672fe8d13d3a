"""What is kept of a graph, and what goes: ranks and levels, held against a plain way to find them."""

import unittest

from endswell.desks import Desk
from endswell.keeping import parted
from endswell.merging import classes_of
from tests.helpers import random_book, seeds

ASKS = ["always", "never", "all", "nearer", "some"]


def nearest(graph, asks, left):
    """The ranks of the nodes that can be kept among those left."""
    ranks = {}
    for rank in range(len(graph) + 1):
        for node in [node for node in left if node not in ranks]:
            goals = list(graph[node].values())
            if asks[node] in ("all", "nearer") and not set(goals) <= set(left):
                continue
            near = any(ranks.get(goal, rank) < rank for goal in goals)
            if asks[node] in ("always", "all") or asks[node] in ("nearer", "some") and near:
                ranks[node] = rank
    return ranks


def parted_plainly(graph, asks):
    left, levels, level = list(graph), {}, 0
    while True:
        ranks = nearest(graph, asks, left)
        if len(ranks) == len(left):
            return ranks, levels
        levels.update({node: level for node in left if node not in ranks})
        left, level = [node for node in left if node in ranks], level + 1


class Keeping(unittest.TestCase):
    def test_ranks_and_levels(self):
        deep = kept = 0
        for rng in seeds(6000):
            many = rng.randint(1, 9)
            nodes = list(range(many))
            graph = {node: {word: rng.choice(nodes) for word in rng.sample("xyz", rng.randint(0, 3))} for node in nodes}
            asks = {node: rng.choice(ASKS + ["nearer", "some"] * rng.randint(0, 4)) for node in nodes}
            ranks, levels = parted(graph, asks)
            told = parted_plainly(graph, asks)
            self.assertEqual((ranks, levels), told)
            deep += len(levels) > 0 and max(levels.values()) > 1
            kept += len(ranks) > 1 and len(levels) > 1
        self.assertGreater(min(deep, kept), 200)

    def test_one_that_lost_a_node_it_needs_does_not_come_back(self):
        """Though it leads to one that rested on it, and finds another one to rest on."""
        graph = {"d": {"x": "w", "y": "g"}, "w": {"x": "d", "y": "v"}, "v": {"x": "r"}, "r": {}, "g": {"x": "g"}}
        asks = {"d": "nearer", "w": "some", "v": "some", "r": "always", "g": "some"}
        ranks, levels = parted(graph, asks)
        self.assertEqual((ranks, levels), ({"r": 0, "v": 1, "w": 2}, {"g": 0, "d": 1}))

    def test_nothing_at_all(self):
        self.assertEqual(parted({}, {}), ({}, {}))


class Merging(unittest.TestCase):
    def test_states_that_go_on_alike(self):
        """Told apart by some talk of no more words than there are states."""
        found = 0
        for rng in seeds(200):
            book = Desk(random_book(rng, "abcde", ["x", "y"]), "a").book()
            classes = classes_of(book)
            for one in book:
                for other in book:
                    alike = self.alike(book, one, other, len(book))
                    found += alike and one < other
                    self.assertIs(classes[one] == classes[other], alike)
        self.assertGreater(found, 100)

    def alike(self, book, one, other, many):
        (kind, turns), (another, goals) = book[one], book[other]
        if kind != another or set(turns) != set(goals):
            return False
        return many == 0 or all(self.alike(book, turns[word], goals[word], many - 1) for word in turns)
