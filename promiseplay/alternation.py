"""Sets of arrows, one inside the other, in which the verdict on a run alternates.

The arrows of a graph have ranks of several kinds. A run is accepted or not, depending
on the number of kinds whose greatest rank that occurs again and again is odd. The
arrows that a run takes again and again are strongly connected. Below each strongly
connected set stand the greatest ones within it that have the opposite verdict. A run
that goes from set to set below the smallest one that it cannot leave tells its
verdict by the depths of the sets that it stays in, and so by ranks of one kind.
"""

from promiseplay.graphs import components


class Alternation:
    """The trees of the strongly connected sets of arrows of a graph.

    arrows are triples of a source, a target and the tuple of the ranks. verdicts tells
    for each number of kinds with an odd greatest rank whether a run is accepted. A set
    has a number; `members` has its arrows, `nodes` the nodes that they lead from, `below`
    the sets below it, `above` the one above it or -1, and `ranks` the rank of staying in it.
    """

    def __init__(self, count, arrows, verdicts):
        self.arrows = arrows
        self.verdicts = verdicts
        self.kinds = tuple(range(len(verdicts) - 1))
        self.members = []
        self.nodes = []
        self.above = []
        self.below = []
        self.ranks = []
        # The number of the greatest set that an arrow, or a node, is in; -1 for one on no cycle.
        self.arrow_roots = [-1] * len(arrows)
        self.node_roots = [-1] * count
        for chosen in self.parts(list(range(len(arrows)))):
            root = self.grow(chosen)
            for arrow in chosen:
                self.arrow_roots[arrow] = root
                self.node_roots[arrows[arrow][0]] = root

    def parts(self, chosen):
        """The greatest strongly connected sets of an ascending list of arrows, as ascending lists."""
        numbers = {}
        for arrow in chosen:
            for node in self.arrows[arrow][:2]:
                if node not in numbers:
                    numbers[node] = len(numbers)
        edges = [[] for _ in numbers]
        for arrow in chosen:
            edges[numbers[self.arrows[arrow][0]]].append(numbers[self.arrows[arrow][1]])
        component = components(edges)
        found = {}
        for arrow in chosen:
            source = component[numbers[self.arrows[arrow][0]]]
            if component[numbers[self.arrows[arrow][1]]] == source:
                found.setdefault(source, []).append(arrow)
        return [found[part] for part in found]

    def most(self, chosen, kind):
        """The greatest rank of a kind among some arrows."""
        return max([self.arrows[arrow][2][kind] for arrow in chosen])

    def is_accepted(self, chosen):
        """Whether a run is accepted that takes exactly these arrows again and again."""
        return self.verdicts[sum([self.most(chosen, kind) % 2 for kind in self.kinds])]

    def grow(self, chosen):
        """Enter a set and all sets below it; return its number."""
        first = len(self.members)
        waiting = [(chosen, -1)]
        depths = []
        while waiting:
            inner, parent = waiting.pop()
            number = len(self.members)
            self.members.append({arrow: True for arrow in inner})
            self.nodes.append({self.arrows[arrow][0]: True for arrow in inner})
            self.above.append(parent)
            self.below.append([])
            if parent >= 0:
                self.below[parent].append(number)
            depths.append(0 if parent < 0 else depths[parent - first] + 1)
            waiting.extend([(part, number) for part in self.opposites(inner)])
        # The greatest set has an even rank exactly if its verdict is to accept.
        top = max(depths)
        top += (top + (0 if self.is_accepted(chosen) else 1)) % 2
        self.ranks.extend([top - depth for depth in depths])
        return first

    def opposites(self, chosen):
        """The greatest strongly connected sets within a set that have the opposite verdict."""
        accepted = self.is_accepted(chosen)
        found = []
        met = {}
        waiting = [chosen]
        while waiting:
            inner = waiting.pop()
            for kind in self.kinds:
                most = self.most(inner, kind)
                for part in self.parts([arrow for arrow in inner if self.arrows[arrow][2][kind] < most]):
                    if tuple(part) not in met:
                        met[tuple(part)] = True
                        if self.is_accepted(part) != accepted:
                            found.append(part)
                        else:
                            waiting.append(part)
        return greatest_sets(found)

    def inner_sets(self, number, node):
        """The sets directly below a set that a node is in."""
        return [child for child in self.below[number] if node in self.nodes[child]]

    def deepest_from(self, number, node):
        """The first of the smallest sets below a set, or the set itself, that a node is in."""
        inner = self.inner_sets(number, node)
        while inner:
            number = inner[0]
            inner = self.inner_sets(number, node)
        return number

    def entrance(self, node):
        """The set with which a run comes to a node from without; -1 if the node is on no cycle."""
        return self.deepest_from(self.node_roots[node], node) if self.node_roots[node] >= 0 else -1

    def step(self, number, arrow):
        """The set with which a run goes on that takes an arrow from a set, and the rank of this step."""
        target = self.arrows[arrow][1]
        if self.arrow_roots[arrow] < 0:
            return self.entrance(target), 0
        came = -1
        while arrow not in self.members[number]:
            came = number
            number = self.above[number]
        rank = self.ranks[number]
        inner = self.inner_sets(number, target)
        if inner:
            # The sets below take turns, so that a run that leaves all of them is seen to do so.
            later = [child for child in inner if child > came]
            number = self.deepest_from(later[0] if later else inner[0], target)
        return number, rank


def greatest_sets(lists):
    """Those of some different lists, taken as sets, that lie in no other one of them."""
    kept = []
    for chosen in sorted([(-len(found), k) for k, found in enumerate(lists)]):
        found = lists[chosen[1]]
        if not any([all([arrow in other for arrow in found]) for other in kept]):
            kept.append({arrow: True for arrow in found})
    return [list(found) for found in kept]
