"""Judges: deterministic automata whose steps have ranks.

A judge accepts a word if the greatest rank that its run has again and again is even.
So it is a parity automaton with its priorities at the steps instead of the states,
which often needs fewer states. A settled judge has at most one state from which each
word is accepted, and at most one from which none is.
"""

from promiseplay.determinization import all_trees
from promiseplay.graphs import components, reached, reversed_edges
from promiseplay.letters import columns_of, grouped, with_letters
from promiseplay.priorities import Priorities
from promiseplay.reduction import smaller
from promiseplay.refinement import merged_table
from promiseplay.trees import Trees


class Judge:
    """A judge that begins in state 0; rows and ranks have an entry for each state and each letter."""

    def __init__(self, letters, rows, ranks):
        self.letters = letters
        self.rows = rows
        self.ranks = ranks


def judge_of(automaton, limit):
    """A settled judge of the words that a Buchi automaton accepts.

    It is None if more trees are needed than a limit says; None is no limit.
    """
    automaton = smaller(automaton)
    table, firsts = grouped(columns_of(automaton.rows, automaton.letters))
    rows, ranks = all_trees(Trees(with_letters(automaton, firsts)), len(firsts), limit)
    if rows is None:
        return None
    return settled(rows, ranks, table)


def opposite_judge(judge):
    """A judge of exactly the words that a judge does not accept."""
    return settled(judge.rows, [[rank + 1 for rank in told] for told in judge.ranks], list(range(judge.letters)))


def other_side(judge, inputs):
    """A judge of the words that a judge does not accept, as the other side reads them.

    A letter i + inputs * o of the one is the letter o + outputs * i of the other.
    """
    outputs = judge.letters // inputs
    table = [letter // outputs + inputs * (letter % outputs) for letter in range(judge.letters)]
    return settled(judge.rows, [[rank + 1 for rank in told] for told in judge.ranks], table)


def settled(rows, ranks, table):
    """The settled judge with some rows and ranks; table has for each letter its index in them."""
    rows, ranks = with_ends(rows, ranks)
    work = Priorities(rows, ranks)
    work.settle(list(range(len(rows))), None)
    # A step that is on no cycle with small ranks alone may have any rank up to a bound.
    # Which one makes more states alike cannot be told beforehand.
    least = []
    greatest = []
    for given, bounds in zip(work.given, work.bounds):
        least.append([max(rank, 0) for rank in given])
        greatest.append([max(rank, bounds[k], 0) for k, rank in enumerate(given)])
    first = quotient_judge(rows, least, table)
    second = quotient_judge(rows, greatest, table)
    return second if len(second.rows) < len(first.rows) else first


def quotient_judge(rows, ranks, table):
    """The judge of settled rows and ranks with one state for all that are alike."""
    count = len(rows[0])
    groups, firsts = grouped(list(zip(columns_of(rows, count), columns_of(ranks, count))))
    labels = [tuple([told[letter] for letter in firsts]) for told in ranks]
    chosen, merged = merged_table(0, labels, [[row[letter] for letter in firsts] for row in rows])
    places = [groups[letter] for letter in table]
    new_rows = [[row[place] for place in places] for row in merged]
    return Judge(len(table), new_rows, [[labels[state][place] for place in places] for state in chosen])


def is_weak(judge):
    """Whether in each component all cycles are accepted, or all are rejected."""
    component = components(judge.rows)
    accepting = {component[state]: True for state in cycle_nodes(judge.rows, judge.ranks, 0)}
    return not any([component[state] in accepting for state in cycle_nodes(judge.rows, judge.ranks, 1)])


def with_ends(rows, ranks):
    """The rows and ranks with the states that accept everything, or nothing, leading to themselves alone."""
    back = reversed_edges(rows)
    some = reached(back, cycle_nodes(rows, ranks, 0))
    missing = reached(back, cycle_nodes(rows, ranks, 1))
    new_rows = []
    new_ranks = []
    for state, row in enumerate(rows):
        if some[state] and missing[state]:
            new_rows.append(row)
            new_ranks.append(ranks[state])
        else:
            new_rows.append([state] * len(row))
            new_ranks.append([0 if some[state] else 1] * len(row))
    return new_rows, new_ranks


def cycle_nodes(rows, ranks, parity):
    """States, at least one on each cycle whose greatest rank is even, or odd."""
    found = {}
    for most in sorted(list({rank: True for told in ranks for rank in told if rank % 2 == parity})):
        low = [[target for k, target in enumerate(row) if ranks[state][k] <= most] for state, row in enumerate(rows)]
        component = components(low)
        for state, row in enumerate(rows):
            for k, target in enumerate(row):
                if ranks[state][k] == most and component[target] == component[state]:
                    found[state] = True
    return list(found)


def ends_of(judge):
    """For each state of a settled judge the tuple of what words may be from there: 0 for accepted, 1 for not."""
    found = []
    for state, row in enumerate(judge.rows):
        fixed = all([target == state for target in row]) and len({rank: True for rank in judge.ranks[state]}) == 1
        found.append((judge.ranks[state][0] % 2,) if fixed else (0, 1))
    return found
