"""From systems with delays to Buchi automata."""

from promiseplay.buchi import Automaton
from promiseplay.graphs import components, reached, reversed_edges
from promiseplay.operations import empty_automaton
from promiseplay.places import Places


def targets_of(system):
    """The list with the ascending list of the successors of each state of a system."""
    edges = []
    for row in system:
        found = {}
        for steps in row:
            for target, _ in steps:
                found[target] = True
        edges.append(sorted(list(found)))
    return edges


def inner_delays(system, component):
    """What is put off inside each component that has a step inside it.

    That is a pair of numbers: the digits that are put off at all steps inside, and
    those that are put off at some step inside.
    """
    inner = {}
    for state, row in enumerate(system):
        number = component[state]
        for steps in row:
            for target, late in steps:
                if component[target] == number:
                    always, ever = inner.get(number, (late, late))
                    inner[number] = (always & late, ever | late)
    return inner


def useful_part(system, starts):
    """The system with the states that are on fair runs from the starts alone, and its starts."""
    edges = targets_of(system)
    component = components(edges)
    inner = inner_delays(system, component)
    fair = [state for state in range(len(system)) if inner.get(component[state], (1, 1))[0] == 0]
    leading = reached(reversed_edges(edges), fair)
    found = reached(edges, starts)
    numbers = {}
    for state in range(len(system)):
        if found[state] and leading[state]:
            numbers[state] = len(numbers)
    rows = []
    for state in numbers:
        rows.append([[(numbers[target], late) for target, late in steps if target in numbers]
                     for steps in system[state]])
    return rows, [numbers[start] for start in starts if start in numbers]


class Levels:
    """The Buchi automaton of a system: its states are those of the system with a level.

    On each cycle all delays of its component are waited for, one after the other. The
    level is the number of those that came; the automaton accepts when all have come.
    """

    def __init__(self, system):
        self.system = system
        self.component = components(targets_of(system))
        self.inner = inner_delays(system, self.component)
        self.awaited = [self.digits_awaited(number) for number in self.component]
        self.places = Places()

    def digits_awaited(self, number):
        """The ascending list of the digits that are waited for in a component."""
        always, ever = self.inner.get(number, (1, 1))
        if always != 0:
            return []
        return [1 << digit for digit in range(ever.bit_length()) if (ever >> digit) & 1]

    def entrance(self, state):
        """The place at which a run comes into the component of a state: nothing is waited for yet."""
        return (state, len(self.awaited[state]))

    def is_accepting(self, place):
        """Whether the automaton accepts at a place."""
        state, level = place
        always, _ = self.inner.get(self.component[state], (1, 1))
        return always == 0 and level == len(self.awaited[state])

    def step(self, place, target, late):
        """The place to which a step leads from a place."""
        state, level = place
        if self.component[state] != self.component[target]:
            return self.entrance(target)
        awaited = self.awaited[state]
        level = 0 if level == len(awaited) else level
        while level < len(awaited) and late & awaited[level] == 0:
            level += 1
        return (target, level)

    def row_of(self, place):
        """The row of a place: for each letter the ascending list of the numbers of successors."""
        row = []
        for steps in self.system[place[0]]:
            targets = {}
            for target, late in steps:
                targets[self.places.number_of(self.step(place, target, late))] = True
            row.append(sorted(list(targets)))
        return row


def fair_automaton(system, starts, letters):
    """The Buchi automaton of the words that have a fair run from the starts of a system."""
    levels = Levels(system)
    for start in starts:
        levels.places.number_of(levels.entrance(start))
    initial = list(range(len(levels.places.order)))
    rows = []
    while levels.places.waits(rows):
        rows.append(levels.row_of(levels.places.first_without(rows)))
    if not rows:
        return empty_automaton(letters)
    accepting = [number for number, place in enumerate(levels.places.order) if levels.is_accepting(place)]
    return Automaton(letters, initial, accepting, rows)


def as_system(automaton):
    """The system with one delay that has the runs of a Buchi automaton as its fair runs."""
    late = [1] * len(automaton.rows)
    for state in automaton.accepting:
        late[state] = 0
    system = []
    for state, row in enumerate(automaton.rows):
        system.append([[(target, late[state]) for target in entry] for entry in row])
    return system
