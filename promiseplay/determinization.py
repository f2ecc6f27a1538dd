"""Making Buchi automata deterministic."""

from promiseplay.letters import columns_of, grouped, with_letters
from promiseplay.parity import ParityAutomaton, quotient
from promiseplay.priorities import small_priorities
from promiseplay.reduction import smaller
from promiseplay.trees import Trees


def determinize(automaton):
    """A parity automaton that accepts the same words as a Buchi automaton."""
    automaton = smaller(automaton)
    table, firsts = grouped(columns_of(automaton.rows, automaton.letters))
    edges, priorities = all_trees(Trees(with_letters(automaton, firsts)), len(firsts))
    few = with_priorities(edges, small_priorities(edges, priorities))
    rows = [[row[group] for group in table] for row in few.rows]
    return ParityAutomaton(automaton.letters, few.start, few.priorities, rows)


def all_trees(trees, letters):
    """The graph of all trees that are reached, the first one being the start, and the priorities of its edges."""
    found = [trees.first_tree()]
    numbers = {found[0]: 0}
    edges = []
    priorities = []
    while len(edges) < len(found):
        row = []
        told = []
        for letter in range(letters):
            tree, priority = trees.step(found[len(edges)], letter)
            if tree not in numbers:
                numbers[tree] = len(found)
                found.append(tree)
            row.append(numbers[tree])
            told.append(priority)
        edges.append(row)
        priorities.append(told)
    return edges, priorities


def with_priorities(edges, priorities):
    """The quotient of the parity automaton whose runs have the priorities of the edges of a graph."""
    arriving = [priorities[node][k] for node, row in enumerate(edges) for k, target in enumerate(row) if target == 0]
    places = [(0, min(arriving, default=0))]
    numbers = {places[0]: 0}
    rows = []
    while len(rows) < len(places):
        node = places[len(rows)][0]
        row = []
        for k, target in enumerate(edges[node]):
            place = (target, priorities[node][k])
            if place not in numbers:
                numbers[place] = len(places)
                places.append(place)
            row.append(numbers[place])
        rows.append(row)
    return quotient(ParityAutomaton(len(edges[0]), 0, [priority for _, priority in places], rows))
