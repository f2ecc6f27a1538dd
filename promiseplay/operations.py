"""Operations on Buchi automata."""

from promiseplay.buchi import Automaton, flags, successors
from promiseplay.errors import Mismatch
from promiseplay.graphs import on_cycles, reached, reversed_edges
from promiseplay.places import Places


def check_same_letters(first, second):
    """Raise Mismatch if two automata do not have the same number of letters."""
    if first.letters != second.letters:
        raise Mismatch("the automata do not have the same letters")


def empty_automaton(letters):
    """The automaton with one state and nothing else."""
    return Automaton(letters, [], [], [[[] for _ in range(letters)]])


def union(first, second):
    """An automaton that accepts the words that at least one of two accepts."""
    check_same_letters(first, second)
    shift = len(first.rows)
    rows = list(first.rows)
    for row in second.rows:
        rows.append([shifted(entry, shift) for entry in row])
    initial = list(first.initial) + shifted(second.initial, shift)
    accepting = list(first.accepting) + shifted(second.accepting, shift)
    return Automaton(first.letters, initial, accepting, rows)


def shifted(states, shift):
    """A list of states, each of them made greater."""
    return [state + shift for state in states]


def intersection(first, second):
    """An automaton that accepts the words that both of two accept."""
    check_same_letters(first, second)
    product = Product(first, second)
    for left in first.initial:
        for right in second.initial:
            product.places.number_of((left, right, 0))
    initial = list(range(len(product.places.order)))
    rows = []
    while product.places.waits(rows):
        rows.append(product.row_of(product.places.first_without(rows)))
    if not rows:
        return empty_automaton(first.letters)
    return trim(Automaton(first.letters, initial, product.accepting_places(), rows))


class Product:
    """The pairs of states of two automata that are reached, with what is waited for.

    A place is a pair of states with 0 while the first automaton is to accept next,
    and 1 while the second one is.
    """

    def __init__(self, first, second):
        self.first = first
        self.second = second
        self.marks = (flags(first.accepting, len(first.rows)), flags(second.accepting, len(second.rows)))
        self.places = Places()

    def row_of(self, place):
        """The row of a place."""
        left, right, waiting = place
        if self.marks[waiting][place[waiting]]:
            waiting = 1 - waiting
        row = []
        for letter in range(self.first.letters):
            targets = []
            for one in self.first.rows[left][letter]:
                for other in self.second.rows[right][letter]:
                    targets.append(self.places.number_of((one, other, waiting)))
            row.append(sorted(targets))
        return row

    def accepting_places(self):
        """The numbers of the places at which the first automaton accepts when it is waited for."""
        return [k for k, place in enumerate(self.places.order) if place[2] == 0 and self.marks[0][place[0]]]


def hide(automaton, letters):
    """An automaton for the words of another one with each letter taken modulo letters."""
    if letters < 1 or automaton.letters % letters != 0:
        raise Mismatch("the numbers of letters do not fit")
    rows = []
    for row in automaton.rows:
        rows.append([merged(row[letter::letters]) for letter in range(letters)])
    return Automaton(letters, automaton.initial, automaton.accepting, rows)


def merged(entries):
    """The ascending list of all states of some lists."""
    found = {}
    for entry in entries:
        for state in entry:
            found[state] = True
    return sorted(list(found))


def widen(automaton, letters):
    """An automaton for the words that another one accepts when each letter is taken modulo its letters."""
    if letters < 1 or letters % automaton.letters != 0:
        raise Mismatch("the numbers of letters do not fit")
    rows = [row * (letters // automaton.letters) for row in automaton.rows]
    return Automaton(letters, automaton.initial, automaton.accepting, rows)


def trim(automaton):
    """The automaton with its useful states alone."""
    useful = useful_states(automaton)
    if not useful:
        return empty_automaton(automaton.letters)
    return restricted(automaton, useful)


def useful_states(automaton):
    """The ascending list of the states of runs that are accepting again and again."""
    edges = successors(automaton)
    cyclic = on_cycles(edges)
    goals = [state for state in automaton.accepting if cyclic[state]]
    leading = reached(reversed_edges(edges), goals)
    found = reached(edges, automaton.initial)
    return [state for state in range(len(edges)) if found[state] and leading[state]]


def restricted(automaton, states):
    """The automaton with some of its states alone, renumbered in their order."""
    numbers = {state: number for number, state in enumerate(states)}
    rows = []
    for state in states:
        rows.append([renumbered(entry, numbers) for entry in automaton.rows[state]])
    initial = renumbered(automaton.initial, numbers)
    return Automaton(automaton.letters, initial, renumbered(automaton.accepting, numbers), rows)


def renumbered(states, numbers):
    """The numbers of those states that have one."""
    return [numbers[state] for state in states if state in numbers]
