"""Making Buchi automata smaller."""

from promiseplay.buchi import Automaton, flags, successors
from promiseplay.fairness import as_system
from promiseplay.graphs import components, on_cycles
from promiseplay.letters import columns_of, grouped, with_letters
from promiseplay.operations import empty_automaton, trim
from promiseplay.simulation import reduced


def smaller(automaton):
    """An automaton that accepts the same words, often with fewer states, and never with more."""
    automaton = trim(automaton)
    table, firsts = grouped(columns_of(automaton.rows, automaton.letters))
    few = with_more_accepting(with_letters(automaton, firsts))
    system, starts = reduced(as_system(few), few.initial)
    if not starts:
        return empty_automaton(automaton.letters)
    rows = [[sorted([target for target, _ in steps]) for steps in row] for row in system]
    accepting = [state for state, row in enumerate(system) if not is_late(row)]
    return trim(with_letters(Automaton(len(firsts), sorted(starts), accepting, rows), table))


def is_late(row):
    """Whether a state of a system with one delay puts it off."""
    return any([late == 1 for steps in row for _, late in steps])


def with_more_accepting(automaton):
    """The automaton in which no state accepts that is on no cycle, and as many others as possible do.

    All states of a component may accept if each cycle in it goes through an accepting state.
    """
    edges = successors(automaton)
    component = components(edges)
    cyclic = on_cycles(edges)
    accepts_here = flags(automaton.accepting, len(edges))
    rest = []
    for state, targets in enumerate(edges):
        rest.append([target for target in targets if component[target] == component[state]
                     and not accepts_here[state] and not accepts_here[target]])
    missing = {}
    for state, loose in enumerate(on_cycles(rest)):
        if loose:
            missing[component[state]] = True
    accepting = []
    for state in range(len(edges)):
        if cyclic[state] and (accepts_here[state] or component[state] not in missing):
            accepting.append(state)
    return Automaton(automaton.letters, automaton.initial, accepting, automaton.rows)
