"""Judges of words that several judges judge together."""

from promiseplay.alternation import Alternation
from promiseplay.judges import ends_of, settled
from promiseplay.letters import columns_of, grouped
from promiseplay.places import Places

# The places of a product from which each word, or none, is accepted.
ALL = (-1,)
NONE = (-2,)


class Product:
    """Settled judges that read the same words, over the letters that they tell apart.

    verdicts tells for each number of judges that reject a word whether it is accepted.
    `arrows` has the steps between places with their ranks, and `steps` for each place
    and letter the index of one.
    """

    def __init__(self, judges, verdicts):
        self.judges = judges
        self.verdicts = verdicts
        columns = []
        for judge in judges:
            columns.append(columns_of(judge.rows, judge.letters))
            columns.append(columns_of(judge.ranks, judge.letters))
        together = [tuple([column[letter] for column in columns]) for letter in range(judges[0].letters)]
        self.table, self.firsts = grouped(together)
        self.ends = [ends_of(judge) for judge in judges]
        self.places = Places()
        self.arrows = Places()
        self.steps = []

    def place(self, states):
        """The place of a state of each judge."""
        ends = [self.ends[k][state] for k, state in enumerate(states)]
        least = sum([min(end) for end in ends])
        verdicts = self.verdicts[least:sum([max(end) for end in ends]) + 1]
        if all(verdicts):
            return ALL
        return tuple(states) if any(verdicts) else NONE

    def explore(self):
        """Find all places that are reached, and their steps."""
        self.places.number_of(self.place([0 for _ in self.judges]))
        while self.places.waits(self.steps):
            place = self.places.first_without(self.steps)
            number = len(self.steps)
            if place in (ALL, NONE):
                arrow = self.arrows.number_of((number, number, self.fixed_ranks(place == ALL)))
                self.steps.append([arrow for _ in self.firsts])
            else:
                self.steps.append([self.arrow_of(number, place, letter) for letter in self.firsts])

    def arrow_of(self, number, states, letter):
        """The step by a letter of the place with a number."""
        target = self.place([judge.rows[states[k]][letter] for k, judge in enumerate(self.judges)])
        ranks = tuple([judge.ranks[states[k]][letter] for k, judge in enumerate(self.judges)])
        return self.arrows.number_of((number, self.places.number_of(target), ranks))

    def fixed_ranks(self, accepted):
        """Ranks with which a run is accepted or not."""
        odd = self.verdicts.index(accepted)
        return tuple([1 if k < odd else 0 for k in range(len(self.judges))])


def combined(judges, verdicts):
    """A settled judge of the words that settled judges judge together as the verdicts say."""
    product = Product(judges, verdicts)
    product.explore()
    arrows = product.arrows.order
    alternation = Alternation(len(product.steps), arrows, verdicts)
    places = Places()
    places.number_of((0, alternation.entrance(0)))
    rows = []
    ranks = []
    while places.waits(rows):
        node, number = places.first_without(rows)
        told = [alternation.step(number, arrow) for arrow in product.steps[node]]
        rows.append([places.number_of((arrows[arrow][1], told[k][0])) for k, arrow in enumerate(product.steps[node])])
        ranks.append([rank for _, rank in told])
    return settled(rows, ranks, product.table)
