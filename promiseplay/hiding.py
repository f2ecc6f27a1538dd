"""The search for values of hidden signals that make a formula true on a word."""

from promiseplay.expansion import Expansion
from promiseplay.graphs import components


def some_values_hold(formula, names, hidden, lasso, turn):
    """Whether the hidden signals have values with which a formula is true at a turn."""
    search = HiddenSearch(formula, list(names) + list(hidden), lasso, turn)
    widths = 1 << len(names)
    choices = [value * widths for value in range(1 << len(hidden))]
    edges, late = search.graph(choices)
    return has_fair_cycle(edges, late)


class HiddenSearch:
    """The runs of a formula over a word whose hidden signals are free.

    A place is a turn, the assets and the duties. Ahead of the turn at which the
    formula is to be true there are duties only where an asset costs some.
    """

    def __init__(self, formula, signals, lasso, turn):
        head, loop = lasso
        rounds = 0
        while len(head) + rounds * len(loop) <= turn:
            rounds += 1
        self.letters = tuple(head) + tuple(loop) * (rounds + 1)
        self.back = len(head) + rounds * len(loop)
        self.turn = turn
        self.expansion = Expansion(formula, signals)
        self.needed = self.expansion.duty(self.expansion.root)
        self.matter = self.expansion.assets_below(self.needed)
        self.places = []
        self.numbers = {}

    def number_of(self, turn, assets, duties):
        """The number of a place, a new one if it is new."""
        if turn == self.turn:
            duties |= self.needed
        place = (turn, assets, duties)
        if place not in self.numbers:
            self.numbers[place] = len(self.places)
            self.places.append(place)
        return self.numbers[place]

    def graph(self, choices):
        """The successors of all places that are reached, and what is put off on the way to each."""
        self.number_of(0, self.expansion.claims.first_assets(), 0)
        edges = []
        late = []
        while len(edges) < len(self.places):
            steps = self.steps_from(self.places[len(edges)], choices)
            edges.append([target for target, _ in steps])
            late.append([put_off for _, put_off in steps])
        return edges, late

    def steps_from(self, place, choices):
        """The pairs of a successor of a place and what is put off on the way."""
        turn, assets, duties = place
        later = turn + 1 if turn + 1 < len(self.letters) else self.back
        kept = self.matter if turn < self.turn else 0
        kinds = {self.expansion.kind(self.letters[turn] + choice): True for choice in choices}
        steps = {}
        for kind in kinds:
            for more, needed, put_off in self.expansion.moves(kind, assets, duties, kept):
                steps[(self.number_of(later, more, needed), put_off)] = True
        return list(steps)


def has_fair_cycle(edges, late):
    """Whether some component has a cycle on which nothing is put off on all edges.

    late has a number for each edge, whose digits tell what is put off there.
    """
    component = components(edges)
    always_late = {}
    for node, targets in enumerate(edges):
        number = component[node]
        for k, target in enumerate(targets):
            if component[target] == number:
                always_late[number] = always_late.get(number, -1) & late[node][k]
    return 0 in list(always_late.values())
