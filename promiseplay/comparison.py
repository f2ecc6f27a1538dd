"""Complement, inclusion and equality of Buchi automata."""

from promiseplay.buchi import flags
from promiseplay.determinization import determinize
from promiseplay.letters import columns_of, grouped, with_letters
from promiseplay.operations import check_same_letters, trim
from promiseplay.parity import complement_parity, to_buchi
from promiseplay.places import Places
from promiseplay.ranked import find_ranked
from promiseplay.reduction import smaller
from promiseplay.trees import Trees
from promiseplay.words import normal_lasso


def complement(automaton):
    """A Buchi automaton that accepts exactly the words that another one does not accept."""
    return smaller(to_buchi(complement_parity(determinize(automaton))))


def equivalent(first, second):
    """None if two automata accept the same words, otherwise a lasso whose word one of them accepts."""
    found = included(first, second)
    if found is None:
        found = included(second, first)
    return found


def included(first, second):
    """None if the second automaton accepts what the first does, otherwise a lasso that shows the opposite."""
    check_same_letters(first, second)
    first = trim(first)
    second = smaller(second)
    letters = first.letters
    _, firsts = grouped(list(zip(columns_of(first.rows, letters), columns_of(second.rows, letters))))
    search = Difference(with_letters(first, firsts), with_letters(second, firsts))
    found = search.find_lasso()
    if found is None:
        return None
    head, loop = found
    return normal_lasso([firsts[group] for group in head], [firsts[group] for group in loop])


class Difference:
    """The search for a word that the first of two automata accepts and the second does not.

    Its places are pairs of a state of the first automaton and a tree of the second.
    """

    def __init__(self, first, second):
        self.first = first
        self.trees = Trees(second)
        self.accepting = flags(first.accepting, len(first.rows))
        self.places = Places()
        self.known = {}
        self.steps = []

    def tree_step(self, tree, letter):
        """The tree and the priority to which a letter leads."""
        if (tree, letter) not in self.known:
            self.known[(tree, letter)] = self.trees.step(tree, letter)
        return self.known[(tree, letter)]

    def steps_of(self, place):
        """The triples of a letter, a successor and a priority for a place."""
        state, tree = place
        steps = []
        for letter, entry in enumerate(self.first.rows[state]):
            if entry:
                later, priority = self.tree_step(tree, letter)
                for target in entry:
                    steps.append((letter, self.places.number_of((target, later)), priority))
        return steps

    def find_lasso(self):
        """The head and the loop, as lists of letters, of such a word, or None."""
        start = self.trees.first_tree()
        for state in self.first.initial:
            self.places.number_of((state, start))
        starts = list(range(len(self.places.order)))
        while self.places.waits(self.steps):
            self.steps.append(self.steps_of(self.places.first_without(self.steps)))
        return find_ranked(self.steps, starts, 1, [self.accepting[state] for state, _ in self.places.order])
