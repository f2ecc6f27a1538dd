import itertools
import random
import unittest

from promiseplay.priorities import small_priorities


def may_repeat(chosen):
    """Whether a play can use exactly some edges, pairs of nodes, again and again."""
    nodes = {node for edge in chosen for node in edge}
    for start in nodes:
        found = {start}
        while True:
            more = {target for source, target in chosen if source in found} - found
            if not more:
                break
            found |= more
        if found != nodes:
            return False
    return bool(chosen)


class SmallPriorities(unittest.TestCase):
    def check(self, edges, priorities):
        found = small_priorities(edges, priorities)
        self.assertEqual([len(row) for row in found], [len(row) for row in edges])
        self.assertGreaterEqual(min(min(row) for row in found), 0)
        self.assertLessEqual(max(max(row) for row in found), max(max(row) for row in priorities))
        every = [(node, k) for node, row in enumerate(edges) for k in range(len(row))]
        for size in range(1, len(every) + 1):
            for chosen in itertools.combinations(every, size):
                if may_repeat([(node, edges[node][k]) for node, k in chosen]):
                    old = max(priorities[node][k] for node, k in chosen)
                    new = max(found[node][k] for node, k in chosen)
                    self.assertEqual(old % 2, new % 2, (edges, priorities, found, chosen))

    def test_all_sets_of_edges(self):
        chance = random.Random(43)
        for _ in range(250):
            nodes = chance.randint(1, 4)
            edges = [[chance.randrange(nodes) for _ in range(2)] for _ in range(nodes)]
            most = chance.choice([1, 2, 3, 5, 9])
            self.check(edges, [[chance.randint(0, most) for _ in row] for row in edges])

    def test_bounds_of_free_edges(self):
        # The only settled edges to node 1 have the priority 4, which the edge from 0 must not have.
        self.check([[1, 0], [2, 2], [0, 1], [1, 0]], [[1, 0], [3, 3], [3, 4], [4, 0]])
        self.check([[1, 2], [0, 0], [1, 1]], [[0, 4], [3, 3], [4, 4]])
        self.check([[1, 2], [0, 0], [1, 1]], [[0, 6], [3, 2], [6, 5]])
