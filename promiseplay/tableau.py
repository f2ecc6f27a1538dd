"""From formulas to systems with delays."""

from promiseplay.expansion import Expansion, best_ways
from promiseplay.fairness import fair_automaton, useful_part
from promiseplay.letters import with_letters
from promiseplay.places import Places
from promiseplay.reduction import smaller
from promiseplay.simulation import reduced


class Tableau:
    """The system of a formula over the letters of names, with hidden signals behind them.

    Its letters are kinds of letters; `table` has the kind of each letter over the names.
    """

    def __init__(self, formula, names, hidden):
        self.expansion = Expansion(formula, list(names) + list(hidden))
        self.choices = []
        self.table = []
        self.places = Places()
        self.group_letters(1 << len(names), 1 << len(hidden))

    def group_letters(self, letters, values):
        """Find the kinds of the letters, each with what the hidden signals let it be."""
        groups = Places()
        for letter in range(letters):
            kinds = {self.expansion.kind(letter + letters * value): True for value in range(values)}
            self.table.append(groups.number_of(tuple(sorted(list(kinds)))))
        self.choices = list(groups.order)

    def row_of(self, place):
        """The steps of a place for each kind of letters."""
        row = []
        for choice in self.choices:
            ways = []
            for kind in choice:
                ways = ways + self.expansion.moves(kind, place[0], place[1])
            best = best_ways(ways)
            row.append([(self.places.number_of((assets, duties)), late) for assets, duties, late in best])
        return row

    def starts(self):
        """The numbers of the places at which runs may begin."""
        assets = self.expansion.claims.first_assets()
        found = {}
        for number in self.expansion.claims.alternatives(self.expansion.root):
            needed = self.expansion.duty(number)
            found[self.places.number_of((assets & self.expansion.assets_below(needed), needed))] = True
        return list(found)

    def whole_system(self):
        """The system of all places that are reached from those that have a number."""
        system = []
        while self.places.waits(system):
            system.append(self.row_of(self.places.first_without(system)))
        return system


def formula_automaton(formula, names, hidden):
    """A Buchi automaton of the words over names of which a formula is true for some values of hidden signals."""
    tableau = Tableau(formula, names, hidden)
    starts = tableau.starts()
    system, starts = useful_part(tableau.whole_system(), starts)
    system, starts = reduced(system, starts)
    few = smaller(fair_automaton(system, starts, len(tableau.choices)))
    return with_letters(few, tableau.table)
