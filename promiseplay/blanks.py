"""Machines with blanks, and how to fill these in such that a specification is met.

Some machines hear parts of the same letters and say parts of one letter. Their cells
are ("opening", machine, turn), ("say", machine, state, letter heard) and ("next",
machine, state, letter heard). A cell may have no value yet.
"""

from promiseplay.courses import course_of
from promiseplay.machines import Machine
from promiseplay.places import Places
from promiseplay.ranked import find_ranked
from promiseplay.synthesis import Contest


class Hand:
    """The shape of one machine.

    `hears` has for each letter the part that the machine hears, `says` for each
    letter that the machine may say what it adds to the letter that all say together.
    """

    def __init__(self, states, hears, says):
        self.states = states
        self.hears = hears
        self.says = says


class Ground:
    """The course of a specification, and at which of its points nothing can be kept any more."""

    def __init__(self, spec):
        self.lead = spec.lead
        self.inputs = 1 << len(spec.inputs)
        self.course = course_of(spec)
        self.contest = Contest(self.course.table, self.course.first)
        self.contest.solve_game()

    def is_lost(self, point):
        """Whether no system keeps the specification from a point on, even if it hears all and says all."""
        if self.course.ahead:
            return self.contest.winners[self.contest.choice_after(point[0], point[1])] == 0
        return self.contest.winners[point[0]] == 1


class Blanks:
    """The puzzle of filling in the tables of some machines for the specification of a ground."""

    def __init__(self, ground, hands):
        self.ground = ground
        self.lead = ground.lead
        self.hands = hands
        self.numbers = tuple(range(len(hands)))

    def choices_of(self, cell):
        """The values that a cell may have."""
        hand = self.hands[cell[1]]
        if cell[0] != "next":
            return list(range(len(hand.says)))
        # States have no names of their own, so the first one that is new may as well be state 1.
        return list(range(min(2, hand.states) if cell[2:] == (0, 0) else hand.states))

    def opening_cells(self):
        """The cells of all openings, turn by turn."""
        return [("opening", k, turn) for turn in range(-self.lead) for k in self.numbers]

    def opening(self, values):
        """The list of the letters of the opening that all machines say together."""
        found = []
        for turn in range(-self.lead):
            found.append(self.together([values[("opening", k, turn)] for k in self.numbers]))
        return found

    def together(self, letters):
        """The letter that the machines say together, each of them its own one."""
        return sum([self.hands[k].says[letter] for k, letter in enumerate(letters)])

    def cells(self, kind, states, heard):
        """The cells of a kind that count when a letter is heard in some states."""
        return [(kind, k, states[k], hand.hears[heard]) for k, hand in enumerate(self.hands)]

    def look(self, values):
        """What is wrong with some values, or which cell must have a value next."""
        for cell in self.opening_cells():
            if cell not in values:
                return None, cell
        point = self.ground.course.start(self.opening(values))
        if self.ground.is_lost(point):
            return self.opening_cells(), None
        return Exploration(self, values, point).look()

    def machine(self, number, values):
        """The machine with a number; cells without a value get 0."""
        hand = self.hands[number]
        rows = []
        for state in range(hand.states):
            row = []
            for heard in range(max(hand.hears) + 1):
                place = (number, state, heard)
                row.append((values.get(("next",) + place, 0), values.get(("say",) + place, 0)))
            rows.append(row)
        opening = [values[("opening", number, turn)] for turn in range(-self.lead)]
        return Machine(len(rows[0]), len(hand.says), self.lead, opening, rows)


class Exploration:
    """The runs that are known already with some values.

    A place is the tuple of the states of all machines and a point of the course.
    `before` has for each place the number of the one ahead of it and the letter heard there.
    """

    def __init__(self, blanks, values, point):
        self.blanks = blanks
        self.given = values
        self.places = Places()
        self.places.number_of((tuple([0 for _ in blanks.hands]), point))
        self.before = [None]
        self.blank = None

    def look(self):
        """What is wrong, or the first cell without a value that counts."""
        steps = []
        while self.places.waits(steps):
            number = len(steps)
            row = []
            for heard in range(self.blanks.ground.inputs):
                step = self.step(number, heard)
                if step is None:
                    continue
                if step[1] < 0:
                    return self.cells_of(self.path_to(number) + [heard], False), None
                row.append(step)
            steps.append(row)
        found = find_ranked(steps, [0], self.blanks.ground.course.broken, [True for _ in steps])
        if found is not None:
            return self.cells_of(found[0] + found[1], True), None
        return None, self.blank

    def value_of(self, cells):
        """The values of some cells; None if one has none, which may be the first one that counts."""
        for cell in cells:
            if cell not in self.given:
                if self.blank is None:
                    self.blank = cell
                return None
        return [self.given[cell] for cell in cells]

    def step(self, number, heard):
        """The step when a letter is heard in a place; None if it is not known, -1 as its target if all is lost."""
        states, point = self.places.order[number]
        letters = self.value_of(self.blanks.cells("say", states, heard))
        if letters is None:
            return None
        later, rank = self.blanks.ground.course.step(point, heard, self.blanks.together(letters))
        if self.blanks.ground.is_lost(later):
            return (heard, -1, rank)
        targets = self.value_of(self.blanks.cells("next", states, heard))
        if targets is None:
            return None
        target = self.places.number_of((tuple(targets), later))
        if target == len(self.before):
            self.before.append((number, heard))
        return (heard, target, rank)

    def path_to(self, number):
        """The list of the letters with which a place was reached first."""
        letters = []
        while self.before[number] is not None:
            number, heard = self.before[number]
            letters.append(heard)
        letters.reverse()
        return letters

    def cells_of(self, letters, whole):
        """The cells that count when some letters are heard; unless whole, the last step does not come to its end."""
        cells = {cell: True for cell in self.blanks.opening_cells()}
        states = self.places.order[0][0]
        for turn, heard in enumerate(letters):
            for cell in self.blanks.cells("say", states, heard):
                cells[cell] = True
            if whole or turn < len(letters) - 1:
                targets = self.blanks.cells("next", states, heard)
                for cell in targets:
                    cells[cell] = True
                states = tuple([self.given[cell] for cell in targets])
        return list(cells)
