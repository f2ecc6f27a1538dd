"""Tables of what is heard and said in each turn, with ranks and prices."""

from promiseplay.conditions import spec_judge
from promiseplay.courses import Course
from promiseplay.judges import ends_of
from promiseplay.letters import grouped
from promiseplay.places import Places
from promiseplay.refinement import merged_table


class Fares:
    """A table with ranks and prices for each state and letter; the even ranks are those of the system.

    Its letters are f + first * s, where one side chooses f, then the other side chooses
    s. With a lead that is not negative it is the system that chooses s.
    """

    def __init__(self, first, rows, ranks, prices):
        self.first = first
        self.rows = rows
        self.ranks = ranks
        self.prices = prices


def fares_of(spec, prices):
    """The table of a specification with prices for the letters over its signals."""
    judge = spec_judge(spec)
    inputs = 1 << len(spec.inputs)
    outputs = 1 << len(spec.outputs)
    if spec.lead >= 0:
        return delayed_fares(judge, prices, inputs, list(range(judge.letters)), spec.lead)
    table = [letter // outputs + inputs * (letter % outputs) for letter in range(judge.letters)]
    return delayed_fares(judge, prices, outputs, table, -1 - spec.lead)


def delayed_fares(judge, prices, first, table, delay):
    """The table in which the second letter of a turn comes so many turns later than the first one.

    table has the letter of the judge for each letter of the table.
    """
    rows = [[row[letter] for letter in table] for row in judge.rows]
    ranks = [[told[letter] for letter in table] for told in judge.ranks]
    costs = [prices[letter] for letter in table]
    groups, firsts = first_groups(rows, ranks, costs, first)
    lost = [end == (1,) for end in ends_of(judge)]
    places = Places()
    places.number_of((0, ()))
    later_rows = []
    labels = []
    while places.waits(later_rows):
        state, pending = places.first_without(later_rows)
        row = []
        told = []
        for letter in range(len(table)):
            waiting = pending + (firsts[groups[letter % first]],)
            if lost[state]:
                row.append(places.number_of((state, ())))
                told.append((1, 0))
            elif len(pending) < delay:
                row.append(places.number_of((state, waiting)))
                told.append((0, 0))
            else:
                whole = letter - letter % first + waiting[0]
                row.append(places.number_of((rows[state][whole], waiting[1:])))
                told.append((ranks[state][whole], costs[whole]))
        later_rows.append(row)
        labels.append(tuple(told))
    chosen, merged = merged_table(0, labels, later_rows)
    merged_ranks = [[rank for rank, _ in labels[state]] for state in chosen]
    return Fares(first, merged, merged_ranks, [[cost for _, cost in labels[state]] for state in chosen])


def first_groups(rows, ranks, costs, first):
    """The group of each first letter of a step, and the first letter of each group; letters of one group are alike."""
    columns = []
    for letter in range(first):
        one = tuple([tuple(row[letter::first]) for row in rows])
        columns.append((one, tuple([tuple(told[letter::first]) for told in ranks]), tuple(costs[letter::first])))
    return grouped(columns)


def fare_course(spec, fares):
    """The course of a specification in which points are states of its table of prices."""
    return Course(fares, fares.first, spec.lead < 0, 1)
