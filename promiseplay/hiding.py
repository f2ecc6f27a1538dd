"""The search for values of hidden signals that make a formula true on a word."""

from promiseplay.expansion import Expansion, best_ways
from promiseplay.graphs import components
from promiseplay.places import Places


def some_values_hold(formula, names, hidden, lasso, turn):
    """Whether the hidden signals have values with which a formula is true at a turn."""
    search = HiddenSearch(formula, list(names), list(hidden), turn)
    head, loop = lasso
    letters = list(head)
    # The turn comes ahead of the loop, so that the formula is asked for only once.
    while len(letters) <= turn:
        letters.extend(loop)
    edges, late = search.loop_graph(loop, search.places_behind(letters))
    return has_fair_cycle(edges, late)


class HiddenSearch:
    """The runs of a formula over a word whose hidden signals are free.

    Ahead of the turn at which the formula is to be true there are duties only where
    an asset costs some.
    """

    def __init__(self, formula, names, hidden, turn):
        self.expansion = Expansion(formula, names + hidden)
        self.choices = [value << len(names) for value in range(1 << len(hidden))]
        self.turn = turn
        self.needed = self.expansion.duty(self.expansion.root)
        self.matter = self.expansion.assets_below(self.needed)
        self.known = {}
        self.known_places = {}

    def ways(self, letter, assets, duties, kept):
        """The best ways to go on with a letter and any values of the hidden signals."""
        place = (letter, assets, duties, kept)
        if place not in self.known:
            kinds = {self.expansion.kind(letter + choice): True for choice in self.choices}
            found = []
            for kind in kinds:
                found = found + self.expansion.moves(kind, assets, duties, kept)
            self.known[place] = best_ways(found)
        return self.known[place]

    def places_behind(self, letters):
        """The best pairs of assets and duties that a run can have when it has read letters."""
        places = ((self.expansion.claims.first_assets(), 0),)
        for turn, letter in enumerate(letters):
            if turn == self.turn:
                places = tuple([(assets, duties | self.needed) for assets, duties in places])
            places = self.places_after(letter, places, self.matter if turn < self.turn else 0)
        return places

    def places_after(self, letter, places, kept):
        """The best pairs of assets and duties behind a letter, which may be many turns the same."""
        place = (letter, places, kept)
        if place not in self.known_places:
            ways = []
            for assets, duties in places:
                # What is put off in finitely many turns does not count.
                ways.extend([(more, later, 0) for more, later, _ in self.ways(letter, assets, duties, kept)])
            self.known_places[place] = tuple([(assets, duties) for assets, duties, _ in best_ways(ways)])
        return self.known_places[place]

    def loop_graph(self, loop, starts):
        """The graph of the runs over a loop, and what is put off at each of its edges."""
        places = Places()
        for assets, duties in starts:
            places.number_of((0, assets, duties))
        edges = []
        late = []
        while places.waits(edges):
            turn, assets, duties = places.first_without(edges)
            later = (turn + 1) % len(loop)
            ways = self.ways(loop[turn], assets, duties, 0)
            edges.append([places.number_of((later, more, needed)) for more, needed, _ in ways])
            late.append([put_off for _, _, put_off in ways])
        return edges, late


def has_fair_cycle(edges, late):
    """Whether in some component with a cycle no digit is put off at all edges.

    late has a number for each edge, whose digits tell what is put off there.
    """
    component = components(edges)
    always_late = {}
    for node, targets in enumerate(edges):
        number = component[node]
        for k, target in enumerate(targets):
            if component[target] == number:
                always_late[number] = always_late.get(number, -1) & late[node][k]
    return 0 in list(always_late.values())
