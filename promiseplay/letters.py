"""Letters that an automaton does not tell apart."""

from promiseplay.buchi import Automaton
from promiseplay.places import Places


def grouped(columns):
    """The group of each column, and the index of the first column of each group.

    Equal columns are in one group; groups are numbered in the order of their first columns.
    """
    groups = Places()
    table = [groups.number_of(column) for column in columns]
    firsts = [table.index(group) for group in range(len(groups.order))]
    return table, firsts


def columns_of(rows, letters):
    """The tuple of the entries of all rows for each letter."""
    return [tuple([row[letter] for row in rows]) for letter in range(letters)]


def with_letters(automaton, letters):
    """The automaton with those letters alone, numbered in their order; one may stand for many."""
    rows = [[row[letter] for letter in letters] for row in automaton.rows]
    return Automaton(len(letters), automaton.initial, automaton.accepting, rows)
