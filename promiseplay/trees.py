"""The trees with which a Buchi automaton is made deterministic.

A tree has a node for each set of states in which a run may be. Its nodes stand in the
order of their age: each is a pair of the index of its parent and its label, a set of
states as binary digits. The label of a node contains those of its children, which have
no state in common, and has a state besides. A child has the states that have been
reached through accepting states since it was there; when the children have all states
of their parent, all runs in the parent have been accepting, and the children go.
"""

from promiseplay.buchi import flags
from promiseplay.fairness import as_system
from promiseplay.simulation import digits_of, followers

EMPTY = ()


class Trees:
    """The trees of a Buchi automaton, with the step that a letter leads from tree to tree.

    The priority of a step tells what happened to the oldest node to which something
    happened: an even one that its children had all its states, an odd one that it
    went. The older the node, the greater the priority; 1 is for nothing.
    """

    def __init__(self, automaton):
        self.size = len(automaton.rows)
        self.accepting = mask_of(automaton.accepting)
        self.initial = mask_of(automaton.initial)
        self.masks = [[mask_of(entry) for entry in row] for row in automaton.rows]
        self.known = {}
        self.universal = universal_states(automaton)
        self.full = ((-1, self.universal),)
        self.followers = followers(as_system(automaton))
        self.better = better_states(self.followers)

    def first_tree(self):
        """The tree ahead of the first turn."""
        if self.initial & self.universal:
            return self.full
        label = self.without_worse(self.initial)
        return ((-1, label),) if label else EMPTY

    def after(self, label, letter):
        """The states to which a letter leads from those of a label."""
        place = (label, letter)
        if place not in self.known:
            found = 0
            for state in digits_of(label):
                found |= self.masks[state][letter]
            self.known[place] = found
        return self.known[place]

    def without_worse(self, label):
        """The states of a label that no other one of them makes needless."""
        kept = 0
        for state in digits_of(label):
            if self.better[state] & label == 0:
                kept |= 1 << state
        return kept

    def step(self, tree, letter):
        """The tree to which a letter leads from a tree, and the priority of this step."""
        if tree == EMPTY:
            return EMPTY, 1
        if tree == self.full:
            return tree, 2 * self.size
        parents = [parent for parent, _ in tree]
        labels = [self.after(label, letter) for _, label in tree]
        if labels[0] & self.universal:
            return self.full, 2 * self.size
        for node in range(len(tree)):
            if labels[node] & self.accepting:
                parents.append(node)
                labels.append(labels[node] & self.accepting)
        labels = self.sorted_out(parents, labels)
        return self.rebuilt(parents, labels, len(tree))

    def sorted_out(self, parents, labels):
        """The labels without the states that stand in older siblings, or that others make needless."""
        labels = disjoint(parents, labels)
        nodes = self.own_states(parents, labels)
        kept = 0
        for own in nodes:
            fresh = self.without_worse(own)
            for state in digits_of(fresh):
                if self.followers[state] & kept:
                    fresh ^= 1 << state
            kept |= fresh
        return [label & kept for label in labels]

    def own_states(self, parents, labels):
        """The states that stand in a node but in none of its children, best nodes first.

        A child is better than its parent, and an older sibling better than a younger one.
        """
        own = list(labels)
        children = [[] for _ in labels]
        for node in range(1, len(labels)):
            own[parents[node]] &= ~labels[node]
            children[parents[node]].append(node)
        order = []
        waiting = [0]
        # This goes through parents first and younger siblings first: it is the reverse of what is asked for.
        while waiting:
            node = waiting.pop()
            order.append(node)
            waiting.extend(children[node])
        return [own[node] for node in reversed(order)]

    def rebuilt(self, parents, labels, old):
        """The tree of the nodes that stay, and the priority; the first old nodes were there before."""
        inside = [0] * len(labels)
        for node in range(1, len(labels)):
            inside[parents[node]] |= labels[node]
        stays = []
        event = 1
        for node, label in enumerate(labels):
            parent = parents[node]
            above = parent < 0 or stays[parent] and inside[parent] != labels[parent]
            stays.append(label != 0 and above)
            if node < old and not stays[node]:
                event = max(event, 2 * (self.size - node) + 1)
            elif node < old and inside[node] == label:
                event = max(event, 2 * (self.size - node))
        if not stays[0]:
            return EMPTY, event
        return renumbered(parents, labels, stays), event


def renumbered(parents, labels, stays):
    """The tree of the nodes that stay."""
    numbers = {-1: -1}
    tree = []
    for node, label in enumerate(labels):
        if stays[node]:
            numbers[node] = len(tree)
            tree.append((numbers[parents[node]], label))
    return tuple(tree)


def disjoint(parents, labels):
    """The labels without the states that are not in the parent, or are in older siblings."""
    found = []
    taken = [0] * len(labels)
    for node, label in enumerate(labels):
        parent = parents[node]
        if parent >= 0:
            label &= found[parent] & ~taken[parent]
            taken[parent] |= label
        found.append(label)
    return found


def mask_of(states):
    """A list of states as binary digits."""
    mask = 0
    for state in states:
        mask |= 1 << state
    return mask


def better_states(masks):
    """For each state the states that make it needless where both stand in one node.

    Of states that follow each other the one with the least number is needed.
    """
    better = []
    for state, mask in enumerate(masks):
        found = 0
        for other in digits_of(mask):
            if other != state and (other < state or not (masks[other] >> state) & 1):
                found |= 1 << other
        better.append(found)
    return better


def universal_states(automaton):
    """Accepting states, as digits, from which each letter leads to one of them."""
    universal = flags(automaton.accepting, len(automaton.rows))
    changed = True
    while changed:
        changed = False
        for state, row in enumerate(automaton.rows):
            if universal[state] and not all([any([universal[target] for target in entry]) for entry in row]):
                universal[state] = False
                changed = True
    return mask_of([state for state, truth in enumerate(universal) if truth])
