"""Buchi automata."""

from promiseplay.errors import InvalidAutomaton
from promiseplay.graphs import on_cycles, shortest_path, shortest_walk
from promiseplay.places import Places, ascends
from promiseplay.words import check_letters, normal_lasso


class Automaton:
    """A Buchi automaton; an entry of a row is the ascending list of successors."""

    def __init__(self, letters, initial, accepting, rows):
        if letters < 1 or len(rows) == 0:
            raise InvalidAutomaton("there is no letter or no state")
        if not ascends(initial, len(rows)) or not ascends(accepting, len(rows)):
            raise InvalidAutomaton("a list of states is wrong")
        for row in rows:
            if len(row) != letters:
                raise InvalidAutomaton("a row does not have one entry for each letter")
            if not all([ascends(entry, len(rows)) for entry in row]):
                raise InvalidAutomaton("a list of successors is wrong")
        self.letters = letters
        self.initial = tuple(initial)
        self.accepting = tuple(accepting)
        self.rows = tuple([tuple([tuple(entry) for entry in row]) for row in rows])


def flags(states, count):
    """The list that tells of each state below count whether it is among some states."""
    told = [False] * count
    for state in states:
        told[state] = True
    return told


def successors(automaton):
    """The list with the ascending list of all successors of each state."""
    found = []
    for row in automaton.rows:
        targets = {}
        for entry in row:
            for target in entry:
                targets[target] = True
        found.append(sorted(list(targets)))
    return found


def labelled(automaton):
    """The list with the pairs of a letter and a successor of each state."""
    steps = []
    for row in automaton.rows:
        steps.append([(letter, target) for letter, entry in enumerate(row) for target in entry])
    return steps


def accepts(automaton, lasso):
    """Whether the automaton accepts the word of the lasso."""
    check_letters(lasso, automaton.letters)
    places, edges = runs(automaton, lasso)
    accepting = flags(automaton.accepting, len(automaton.rows))
    cyclic = on_cycles(edges)
    # A component with an accepting state and a cycle has a cycle through that state.
    for node, (_, state) in enumerate(places):
        if accepting[state] and cyclic[node]:
            return True
    return False


def runs(automaton, lasso):
    """The list of the places of all runs on a lasso, pairs of a turn and a state, and the graph of them.

    The turns are those of the head and of one loop.
    """
    head, loop = lasso
    letters = tuple(head) + tuple(loop)
    places = Places()
    for state in automaton.initial:
        places.number_of((0, state))
    edges = []
    while places.waits(edges):
        turn, state = places.first_without(edges)
        later = turn + 1 if turn + 1 < len(letters) else len(head)
        edges.append([places.number_of((later, target)) for target in automaton.rows[state][letters[turn]]])
    return places.order, edges


def find_word(automaton):
    """A lasso whose word the automaton accepts, or None; its head and its loop are short."""
    cyclic = on_cycles(successors(automaton))
    goals = [False] * len(automaton.rows)
    for state in automaton.accepting:
        goals[state] = cyclic[state]
    steps = labelled(automaton)
    found = shortest_path(steps, automaton.initial, goals)
    if found is None:
        return None
    head, state = found
    loop, _ = shortest_walk(steps, state, flags([state], len(steps)))
    return normal_lasso(head, loop)
