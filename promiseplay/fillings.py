"""The search for values of cells such that nothing is wrong.

A puzzle tells what is wrong with the values that some cells have, or which cell must
have a value next. What was learned from a failure is kept: a set of values that do
not stand together is never tried again.
"""


class Filling:
    """The search for values of the cells of a puzzle.

    A puzzle has a method `choices_of`, which gives the list of the values that a cell may
    have, and a method `look`. This is told a dict of values and returns a pair: the list
    of cells whose values do not stand together, or None; and a cell that must have a
    value, or None if all is well as it is.

    `order` has the cells in the order in which they got their values, and `reasons` for
    each of them the values that it cannot have, each with the dict of the cells because
    of which it cannot. `barred` has for each pair of a cell and a value the tuples of
    the other pairs with which it does not stand together.
    """

    def __init__(self, puzzle):
        self.puzzle = puzzle
        self.given = {}
        self.order = []
        self.reasons = {}
        self.barred = {}

    def fill(self):
        """Give values to cells; return whether that can be done."""
        while True:
            wrong, cell = self.puzzle.look(self.given)
            if wrong is None and cell is None:
                return True
            if wrong is None:
                self.order.append(cell)
                self.reasons[cell] = {}
                wrong = self.choose(cell)
                if wrong is not None:
                    self.leave()
            if wrong is not None and not self.go_back({cell: True for cell in wrong}):
                return False

    def choose(self, cell):
        """Give a value to the cell that comes last; None, or the cells because of which there is none."""
        reasons = self.reasons[cell]
        for value in self.puzzle.choices_of(cell):
            if value not in reasons:
                reason = self.known_reason(cell, value)
                if reason is None:
                    self.given[cell] = value
                    return None
                reasons[value] = reason
        wrong = {}
        for reason in list(reasons.values()):
            wrong.update(reason)
        return list(wrong)

    def known_reason(self, cell, value):
        """The cells because of which a cell cannot have a value, as a dict, if something learned tells so; or None."""
        for pairs in self.barred.get((cell, value), ()):
            if all([self.given.get(other) == known for other, known in pairs]):
                return {other: True for other, _ in pairs}
        return None

    def leave(self):
        """Take away the cell that comes last."""
        cell = self.order.pop()
        del self.reasons[cell]

    def go_back(self, wrong):
        """Give up values until those of some cells do not stand together any more; return whether that can be done."""
        while wrong:
            while self.order[-1] not in wrong:
                del self.given[self.order[-1]]
                self.leave()
            cell = self.order[-1]
            value = self.given.pop(cell)
            others = {other: True for other in wrong if other != cell}
            self.learn(cell, value, others)
            self.reasons[cell][value] = others
            failed = self.choose(cell)
            if failed is None:
                return True
            self.leave()
            wrong = {other: True for other in failed}
        return False

    def learn(self, cell, value, others):
        """Keep that a value of a cell does not stand together with the present values of others."""
        pairs = [(cell, value)] + [(other, self.given[other]) for other in others]
        for pair in pairs:
            rest = tuple([other for other in pairs if other != pair])
            self.barred.setdefault(pair, []).append(rest)
