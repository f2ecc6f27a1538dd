"""Judges of what a machine with a lead hears and emits."""

from promiseplay.judges import settled
from promiseplay.letters import grouped
from promiseplay.places import Places


def input_groups(judge, inputs):
    """The group of each letter that may be heard, and the first letter of each group.

    Letters of one group make no difference to the judge, whatever is said with them.
    """
    columns = []
    for letter in range(inputs):
        rows = [tuple(row[letter::inputs]) for row in judge.rows]
        columns.append((tuple(rows), tuple([tuple(told[letter::inputs]) for told in judge.ranks])))
    return grouped(columns)


def delayed(judge, inputs):
    """A judge of the words in which what is said comes one turn later than in those of a judge.

    Its letters are i + inputs * o as before, but it judges o together with the i of
    the turn before. The first o counts for nothing.
    """
    groups, firsts = input_groups(judge, inputs)
    places = Places()
    # The pair (-1, 0) is the state ahead of the first turn.
    places.number_of((-1, 0))
    rows = []
    ranks = []
    while places.waits(rows):
        state, group = places.first_without(rows)
        row = []
        told = []
        for letter in range(judge.letters):
            heard = letter % inputs
            earlier = letter - heard + firsts[group]
            later = 0 if state < 0 else judge.rows[state][earlier]
            row.append(places.number_of((later, groups[heard])))
            told.append(0 if state < 0 else judge.ranks[state][earlier])
        rows.append(row)
        ranks.append(told)
    return settled(rows, ranks, list(range(judge.letters)))


def delayed_by(judge, inputs, lead):
    """A judge of what systems with a lead that is not negative hear and emit, from one of what they hear and say."""
    for _ in range(lead):
        judge = delayed(judge, inputs)
    return judge
