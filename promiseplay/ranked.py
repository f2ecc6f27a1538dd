"""Lassos in graphs whose steps have ranks.

The steps of a node are triples of a letter, a successor and a rank.
"""

from promiseplay.buchi import flags
from promiseplay.graphs import components, shortest_path


def find_ranked(steps, starts, parity, goals):
    """The head and the loop, as lists of letters, of a run from one of the starts; or None.

    The greatest rank of the loop is even (parity 0) or odd (1), and the loop comes to a
    node of the goals. All nodes must be such that they can be reached from the starts.
    """
    ranks = {rank: True for row in steps for _, _, rank in row if rank % 2 == parity}
    for most in sorted(list(ranks)):
        found = find_with(steps, starts, most, goals)
        if found is not None:
            return found
    return None


def find_with(steps, starts, most, goals):
    """Such a run in whose loop a rank is the greatest one, or None."""
    edges = [[target for _, target, rank in row if rank <= most] for row in steps]
    component = components(edges)
    good = {}
    for node, is_goal in enumerate(goals):
        if is_goal:
            good[component[node]] = True
    for node, row in enumerate(steps):
        for letter, target, rank in row:
            if rank == most and component[target] == component[node] and component[node] in good:
                return lasso_through(steps, starts, (node, letter, target), most, component, goals)
    return None


def lasso_through(steps, starts, step, most, component, goals):
    """The head and the loop of a run that takes a step again and again and stays in its component."""
    node, letter, target = step
    free = [[(one, other) for one, other, _ in row] for row in steps]
    head, _ = shortest_path(free, starts, flags([node], len(free)))
    inner = []
    for source, row in enumerate(steps):
        here = component[source] == component[node]
        inner.append([(one, other) for one, other, rank in row
                      if here and rank <= most and component[other] == component[node]])
    there, middle = shortest_path(inner, [target], goals)
    back, _ = shortest_path(inner, [middle], flags([node], len(inner)))
    return head, [letter] + there + back
