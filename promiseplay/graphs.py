"""Graphs: lists with the list of the successors of each node."""


class Search:
    """The search for the strongly connected components of a graph, without recursion."""

    def __init__(self, edges):
        self.edges = edges
        self.entered = [-1] * len(edges)
        self.low = [0] * len(edges)
        self.component = [-1] * len(edges)
        self.total = 0
        self.clock = 0
        self.path = []
        self.open_nodes = []

    def enter(self, node):
        """Begin with a node."""
        self.entered[node] = self.clock
        self.low[node] = self.clock
        self.clock += 1
        self.open_nodes.append(node)
        self.path.append([node, 0])

    def run(self, root):
        """Number the components of all nodes that can be reached from a node."""
        self.enter(root)
        while self.path:
            place = self.path[-1]
            node = place[0]
            if place[1] < len(self.edges[node]):
                target = self.edges[node][place[1]]
                place[1] += 1
                if self.entered[target] < 0:
                    self.enter(target)
                elif self.component[target] < 0:
                    self.low[node] = min(self.low[node], self.entered[target])
            else:
                self.leave(node)

    def leave(self, node):
        """End with a node whose successors are done."""
        self.path.pop()
        if self.path:
            parent = self.path[-1][0]
            self.low[parent] = min(self.low[parent], self.low[node])
        if self.low[node] == self.entered[node]:
            member = self.open_nodes.pop()
            self.component[member] = self.total
            while member != node:
                member = self.open_nodes.pop()
                self.component[member] = self.total
            self.total += 1


def components(edges):
    """The list with the number of the strongly connected component of each node.

    An edge between two components leads to the one with the smaller number.
    """
    search = Search(edges)
    for node in range(len(edges)):
        if search.entered[node] < 0:
            search.run(node)
    return search.component


def on_cycles(edges):
    """The list that tells of each node whether it lies on a cycle."""
    component = components(edges)
    inner = {}
    for node, targets in enumerate(edges):
        for target in targets:
            if component[target] == component[node]:
                inner[component[node]] = True
    return [number in inner for number in component]


def reached(edges, starts):
    """The list that tells of each node whether it can be reached from the starts."""
    found = [False] * len(edges)
    waiting = []
    for node in starts:
        if not found[node]:
            found[node] = True
            waiting.append(node)
    while waiting:
        node = waiting.pop()
        for target in edges[node]:
            if not found[target]:
                found[target] = True
                waiting.append(target)
    return found


def reversed_edges(edges):
    """The graph with all edges turned round."""
    back = [[] for _ in edges]
    for node, targets in enumerate(edges):
        for target in targets:
            back[target].append(node)
    return back


def shortest_path(steps, starts, goals):
    """A shortest path from one of the starts to a node of the goals.

    steps has for each node a list of pairs of a letter and a successor, goals a
    truth value for each node. Returns the list of the letters and the node, or None.
    """
    before = {}
    for node in starts:
        before[node] = None
    return spread(steps, before, goals)


def shortest_walk(steps, node, goals):
    """A shortest path with at least one letter from a node to a node of the goals, likewise."""
    # The number -1 stands for the node at the beginning, which may be reached again.
    before = {-1: None}
    for letter, target in steps[node]:
        if target not in before:
            before[target] = (letter, -1)
    return spread(steps, before, goals)


def spread(steps, before, goals):
    """Search on from the nodes of before, which has the step that led to each node."""
    queue = [node for node in before if node >= 0]
    at = 0
    while at < len(queue):
        node = queue[at]
        at += 1
        if goals[node]:
            return trail(before, node), node
        for letter, target in steps[node]:
            if target not in before:
                before[target] = (letter, node)
                queue.append(target)
    return None


def trail(before, node):
    """The letters of the path that a search found to a node."""
    letters = []
    step = before[node]
    while step is not None:
        letters.append(step[0])
        step = before[step[1]]
    letters.reverse()
    return letters
