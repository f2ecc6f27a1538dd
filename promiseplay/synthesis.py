"""Controllers and counter-strategies for specifications."""

from promiseplay.delays import judge_with_lead
from promiseplay.games import Game
from promiseplay.machines import Machine
from promiseplay.minimization import minimize
from promiseplay.places import Places
from promiseplay.solving import solve
from promiseplay.specs import dual


class Verdict:
    """Whether a specification is realizable, and a controller or a counter-strategy."""

    def __init__(self, realizable, machine):
        self.realizable = realizable
        self.machine = machine


def synthesize(spec):
    """The verdict on a specification."""
    if spec.lead < 0:
        # The dual has a lead of at least 0, so there is one kind of game to solve.
        verdict = synthesize(dual(spec))
        return Verdict(not verdict.realizable, verdict.machine)
    contest = Contest(judge_with_lead(spec), 1 << len(spec.inputs))
    contest.decide()
    if contest.is_won():
        machine = controller(contest, spec.lead)
    else:
        machine = counter_strategy(contest, spec.lead)
    return Verdict(contest.is_won(), minimize(machine))


class Contest:
    """The game in which a letter is heard, then a letter is emitted, and a judge tells who wins.

    The first positions are the states of the judge; there the surroundings, player 1,
    choose what is heard. A position ("say", ..) has the steps among which the system,
    player 0, chooses, each a pair of a rank and a state; ("step", ..) is such a step.
    """

    def __init__(self, judge, inputs):
        self.judge = judge
        self.inputs = inputs
        self.outputs = judge.letters // inputs
        self.places = Places()
        self.choices = []
        self.winners = []

    def steps_after(self, state, heard):
        """The list of the steps for each letter that may be emitted, when a letter is heard in a state."""
        row = self.judge.rows[state]
        told = self.judge.ranks[state]
        return [(told[letter], row[letter]) for letter in range(heard, self.judge.letters, self.inputs)]

    def decide(self):
        """Solve the game."""
        for state in range(len(self.judge.rows)):
            self.places.number_of(("state", state))
        moves = []
        while self.places.waits(moves):
            kind, what = self.places.first_without(moves)
            if kind == "state":
                met = [self.choice_after(what, heard) for heard in range(self.inputs)]
            elif kind == "say":
                met = [self.places.number_of(("step", step)) for step in what]
            else:
                met = [what[1]]
            moves.append(sorted(list({target: True for target in met})))
        owners = [1 if kind == "state" else 0 for kind, _ in self.places.order]
        priorities = [what[0] if kind == "step" else 0 for kind, what in self.places.order]
        solution = solve(Game(owners, priorities, moves))
        self.choices = solution.choices
        self.winners = solution.winners

    def choice_after(self, state, heard):
        """The position at which the system chooses when a letter is heard in a state."""
        steps = {step: True for step in self.steps_after(state, heard)}
        return self.places.number_of(("say", tuple(sorted(list(steps)))))

    def is_won(self):
        """Whether the system wins."""
        return self.winners[0] == 0

    def answer(self, state, heard):
        """The letter that the system emits when a letter is heard in a state."""
        _, step = self.places.order[self.choices[self.choice_after(state, heard)]]
        return self.steps_after(state, heard).index(step)

    def challenge(self, state):
        """The letter that the surroundings let be heard in a state."""
        for heard in range(self.inputs):
            if self.choice_after(state, heard) == self.choices[state]:
                return heard
        return 0

    def after(self, state, heard, emitted):
        """The state after a letter is heard and a letter is emitted."""
        return self.judge.rows[state][heard + self.inputs * emitted]


def controller(contest, lead):
    """The machine that wins for the system."""
    places = Places()
    places.number_of(0)
    rows = []
    while places.waits(rows):
        state = places.first_without(rows)
        row = []
        for heard in range(contest.inputs):
            emitted = contest.answer(state, heard)
            row.append((places.number_of(contest.after(state, heard, emitted)), emitted))
        rows.append(row)
    return Machine(contest.inputs, contest.outputs, lead, [], rows)


def counter_strategy(contest, lead):
    """The machine that wins for the surroundings.

    It says one letter more than the lead before it hears anything, because what the
    system emits in its first turns is never said.
    """
    state = 0
    opening = [contest.challenge(state)]
    for turn in range(lead):
        state = contest.after(state, opening[turn], 0)
        opening.append(contest.challenge(state))
    places = Places()
    places.number_of(state)
    rows = []
    while places.waits(rows):
        state = places.first_without(rows)
        row = []
        for said in range(contest.outputs):
            later = contest.after(state, contest.challenge(state), said)
            row.append((places.number_of(later), contest.challenge(later)))
        rows.append(row)
    return Machine(contest.outputs, contest.inputs, -1 - lead, opening, rows)
