"""Deterministic parity automata."""

from promiseplay.buchi import Automaton
from promiseplay.errors import InvalidAutomaton
from promiseplay.letters import columns_of, grouped
from promiseplay.operations import trim
from promiseplay.places import Places
from promiseplay.refinement import merged_table
from promiseplay.words import check_letters


class ParityAutomaton:
    """A parity automaton; an entry of a row is the successor."""

    def __init__(self, letters, start, priorities, rows):
        if letters < 1 or len(rows) == 0 or len(priorities) != len(rows):
            raise InvalidAutomaton("there is no letter or no state, or the priorities do not fit")
        if start < 0 or start >= len(rows) or min(priorities) < 0:
            raise InvalidAutomaton("the start is no state, or a priority is negative")
        for row in rows:
            if len(row) != letters or min(row) < 0 or max(row) >= len(rows):
                raise InvalidAutomaton("a row does not have one state for each letter")
        self.letters = letters
        self.start = start
        self.priorities = tuple(priorities)
        self.rows = tuple([tuple(row) for row in rows])


def accepts_parity(parity, lasso):
    """Whether the parity automaton accepts the word of the lasso."""
    check_letters(lasso, parity.letters)
    head, loop = lasso
    state = parity.start
    for letter in head:
        state = parity.rows[state][letter]
    # The greatest priorities of the rounds of the loop, and the round that began in each state.
    greatest = []
    rounds = {}
    while state not in rounds:
        rounds[state] = len(greatest)
        most = 0
        for letter in loop:
            state = parity.rows[state][letter]
            most = max(most, parity.priorities[state])
        greatest.append(most)
    return max(greatest[rounds[state]:]) % 2 == 0


def complement_parity(parity):
    """The parity automaton that accepts exactly the other words."""
    priorities = [priority + 1 for priority in parity.priorities]
    return ParityAutomaton(parity.letters, parity.start, priorities, parity.rows)


def quotient(parity):
    """The parity automaton with one state for each class of alike states that can be reached."""
    table, firsts = grouped(columns_of(parity.rows, parity.letters))
    rows = [[row[letter] for letter in firsts] for row in parity.rows]
    # Letters of one group lead to the same states, so leaving them out keeps the order.
    chosen, merged = merged_table(parity.start, parity.priorities, rows)
    priorities = [parity.priorities[state] for state in chosen]
    return ParityAutomaton(parity.letters, 0, priorities, [[row[group] for group in table] for row in merged])


def to_buchi(parity):
    """A Buchi automaton that accepts the same words.

    At some turn it guesses the greatest even priority that will occur again and again,
    and that no greater one will occur from then on.
    """
    guess = Guess(parity)
    initial = guess.numbers_of((parity.start, -1)) + guess.numbers_of((parity.start, parity.priorities[parity.start]))
    rows = []
    while guess.places.waits(rows):
        rows.append(guess.row_of(guess.places.first_without(rows)))
    accepting = []
    for number, (state, most) in enumerate(guess.places.order):
        if parity.priorities[state] == most:
            accepting.append(number)
    return trim(Automaton(parity.letters, initial, accepting, rows))


class Guess:
    """The states of a parity automaton with the greatest priority that is guessed, or -1 for none yet."""

    def __init__(self, parity):
        self.parity = parity
        self.places = Places()

    def numbers_of(self, place):
        """The list with the number of a place, the empty list if the place is no guess that can be right."""
        state, most = place
        if most >= 0 and (most % 2 == 1 or self.parity.priorities[state] > most):
            return []
        return [self.places.number_of(place)]

    def row_of(self, place):
        """The row of a place."""
        state, most = place
        row = []
        for target in self.parity.rows[state]:
            entry = self.numbers_of((target, most))
            if most == -1:
                entry = entry + self.numbers_of((target, self.parity.priorities[target]))
            row.append(sorted(entry))
        return row
