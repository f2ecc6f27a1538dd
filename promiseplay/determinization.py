"""Making Buchi automata deterministic."""

from promiseplay.letters import columns_of, grouped, with_letters
from promiseplay.parity import ParityAutomaton, quotient
from promiseplay.places import Places
from promiseplay.priorities import small_priorities
from promiseplay.reduction import smaller
from promiseplay.trees import Trees


def determinize(automaton):
    """A parity automaton that accepts the same words as a Buchi automaton."""
    automaton = smaller(automaton)
    table, firsts = grouped(columns_of(automaton.rows, automaton.letters))
    edges, priorities = all_trees(Trees(with_letters(automaton, firsts)), len(firsts), None)
    few = with_priorities(edges, small_priorities(edges, priorities))
    rows = [[row[group] for group in table] for row in few.rows]
    return ParityAutomaton(automaton.letters, few.start, few.priorities, rows)


def all_trees(trees, letters, limit):
    """The graph of all trees that are reached, the first one being the start, and the priorities of its edges.

    Both are None if more trees are reached than a limit says; None is no limit.
    """
    places = Places()
    places.number_of(trees.first_tree())
    edges = []
    priorities = []
    while places.waits(edges):
        if limit is not None and len(places.order) > limit:
            return None, None
        tree = places.first_without(edges)
        steps = [trees.step(tree, letter) for letter in range(letters)]
        edges.append([places.number_of(later) for later, _ in steps])
        priorities.append([priority for _, priority in steps])
    return edges, priorities


def with_priorities(edges, priorities):
    """The quotient of the parity automaton whose runs have the priorities of the edges of a graph."""
    arriving = [priorities[node][k] for node, row in enumerate(edges) for k, target in enumerate(row) if target == 0]
    places = Places()
    places.number_of((0, min(arriving, default=0)))
    rows = []
    while places.waits(rows):
        node, _ = places.first_without(rows)
        rows.append([places.number_of((target, priorities[node][k])) for k, target in enumerate(edges[node])])
    return quotient(ParityAutomaton(len(edges[0]), 0, [priority for _, priority in places.order], rows))
