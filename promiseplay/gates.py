"""Rows of gates, in which no gate stands twice and none is needless from the start.

A literal is 2 * v for the value of the node v, or 2 * v + 1 for the opposite of it.
"""

ZERO = 0
ONE = 1


class Gates:
    """Gates behind a number of other nodes: `row` has their pairs of literals."""

    def __init__(self, nodes):
        self.nodes = nodes
        self.row = []
        self.known = {}

    def both(self, first, second):
        """A literal that is 1 if two literals are."""
        low = min(first, second)
        high = max(first, second)
        if low == ZERO or low ^ high == 1:
            return ZERO
        if low == ONE or low == high:
            return high
        if (low, high) not in self.known:
            self.known[(low, high)] = 2 * (self.nodes + len(self.row))
            self.row.append((low, high))
        return self.known[(low, high)]

    def either(self, first, second):
        """A literal that is 1 if one of two literals is."""
        return self.both(first ^ 1, second ^ 1) ^ 1

    def choice(self, chosen, present, absent):
        """A literal that is one literal where a third one is 1, and another one where that is 0."""
        if present == absent:
            return present
        if absent == ZERO:
            return self.both(chosen, present)
        if present == ZERO:
            return self.both(chosen ^ 1, absent)
        if present == ONE:
            return self.either(chosen, absent)
        if absent == ONE:
            return self.either(chosen ^ 1, present)
        return self.either(self.both(chosen, present), self.both(chosen ^ 1, absent))


class Decisions:
    """Gates for functions that are given by tables.

    A table is an integer: its digit of the weight 2 ** k is the value where the literals
    have the digits of k as their values, the first literal having the weight 1.
    """

    def __init__(self, gates, literals):
        self.gates = gates
        self.literals = literals
        self.known = {}

    def literal_of(self, table):
        """A literal with the values of a table."""
        return self.find(table, len(self.literals))

    def find(self, table, count):
        """A literal with the values of a table over the first literals, as many as count says."""
        size = 1 << count
        # Of a table and its opposite only one is built: the one that is 0 where all literals are.
        if table & 1:
            return self.find(table ^ ((1 << size) - 1), count) ^ 1
        if table == 0:
            return ZERO
        if (count, table) not in self.known:
            half = size // 2
            absent = self.find(table & ((1 << half) - 1), count - 1)
            present = self.find(table >> half, count - 1)
            self.known[(count, table)] = self.gates.choice(self.literals[count - 1], present, absent)
        return self.known[(count, table)]
