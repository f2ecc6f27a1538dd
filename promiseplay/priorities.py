"""Small priorities for graphs whose edges have priorities.

What counts is whether the greatest priority on each cycle is even. An edge that is on
no cycle without a greater priority may have any priority up to that one, so it gets
one that makes states alike.
"""

from promiseplay.graphs import components


class Priorities:
    """New priorities for the edges of a graph: `given` has them for each node and edge."""

    def __init__(self, edges, priorities):
        self.edges = edges
        self.priorities = priorities
        self.given = [[-1] * len(row) for row in edges]
        # The greatest priority that an edge may have, -1 where any one may stand.
        self.bounds = [[-1] * len(row) for row in edges]

    def settle(self, nodes, limit):
        """Give priorities to the edges among some nodes that have an old one below a limit.

        A limit of None means no limit. Returns the greatest priority given, or -1.
        """
        greatest = -1
        for members in self.parts(nodes, limit):
            inner = self.inner_edges(members, limit)
            if inner:
                greatest = max(greatest, self.settle_part(members, inner))
        return greatest

    def settle_part(self, members, inner):
        """Give priorities to the inner edges of a strongly connected part; return the greatest."""
        most = max([self.priorities[node][k] for node, k in inner])
        below = self.settle(members, most)
        if below < 0:
            new = most % 2
        else:
            new = below + (most - below) % 2
        for node, k in inner:
            if self.priorities[node][k] == most:
                self.given[node][k] = new
            elif self.given[node][k] < 0 and self.bounds[node][k] < 0:
                self.bounds[node][k] = new
        return new

    def allowed(self, node, k, limit):
        """Whether an edge has an old priority below a limit."""
        return limit is None or self.priorities[node][k] < limit

    def parts(self, nodes, limit):
        """The strongly connected parts of some nodes, each an ascending list."""
        numbers = {node: number for number, node in enumerate(nodes)}
        edges = []
        for node in nodes:
            edges.append([numbers[target] for k, target in enumerate(self.edges[node])
                          if target in numbers and self.allowed(node, k, limit)])
        parts = {}
        for number, part in enumerate(components(edges)):
            parts.setdefault(part, []).append(nodes[number])
        return [parts[part] for part in sorted(list(parts))]

    def inner_edges(self, members, limit):
        """The edges, as pairs of a node and an index, that stay among the members below a limit."""
        inside = {node: True for node in members}
        found = []
        for node in members:
            for k, target in enumerate(self.edges[node]):
                if target in inside and self.allowed(node, k, limit):
                    found.append((node, k))
        return found

    def settle_free(self):
        """Give priorities to all other edges, such that few different ones lead to each node."""
        arriving = [[] for _ in self.edges]
        for node, row in enumerate(self.edges):
            for k, target in enumerate(row):
                if self.given[node][k] >= 0:
                    arriving[target].append(self.given[node][k])
        least = [min(found, default=0) for found in arriving]
        for node, row in enumerate(self.edges):
            for k, target in enumerate(row):
                if self.given[node][k] < 0:
                    fits = self.bounds[node][k] < 0 or least[target] <= self.bounds[node][k]
                    self.given[node][k] = least[target] if fits else 0


def small_priorities(edges, priorities):
    """Small priorities for all edges that make the same cycles even."""
    work = Priorities(edges, priorities)
    work.settle(list(range(len(edges))), None)
    work.settle_free()
    return work.given
