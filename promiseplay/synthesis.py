"""Controllers and counter-strategies for specifications."""

from promiseplay.conditions import spec_judge
from promiseplay.delays import delayed_by
from promiseplay.games import Game, choices_win
from promiseplay.judges import other_side
from promiseplay.machines import Machine
from promiseplay.minimization import minimize
from promiseplay.places import Places
from promiseplay.solving import solve


class Verdict:
    """Whether a specification is realizable, and a controller or a counter-strategy."""

    def __init__(self, realizable, machine):
        self.realizable = realizable
        self.machine = machine


def synthesize(spec):
    """The verdict on a specification."""
    return decided(spec_judge(spec), 1 << len(spec.inputs), spec.lead)


def decided(judge, inputs, lead):
    """The verdict on the words that a judge accepts, where systems have a lead and hear one of some letters."""
    if lead < 0:
        # The other side has a lead of at least 0, so there is one kind of game to solve.
        verdict = decided(other_side(judge, inputs), judge.letters // inputs, -1 - lead)
        return Verdict(not verdict.realizable, verdict.machine)
    contest = Contest(delayed_by(judge, inputs, lead), inputs)
    contest.decide()
    if contest.is_won():
        machine = controller(contest, lead)
    else:
        machine = counter_strategy(contest, lead)
    return Verdict(contest.is_won(), minimize(machine))


class Contest:
    """The game in which a letter is heard, then a letter is emitted, and a judge tells who wins.

    The first positions are the states of the judge; there the surroundings, player 1,
    choose what is heard. A position ("say", ..) has for each letter that the system,
    player 0, may emit the step to which it leads, a pair of a rank and a state; ("step",
    ..) is such a step. `winners` has the winner of each position, and `favourite` is a
    letter that the winner at the start prefers.
    """

    def __init__(self, judge, inputs):
        self.judge = judge
        self.inputs = inputs
        self.outputs = judge.letters // inputs
        self.places = Places()
        self.answers = []
        self.winners = ()
        self.choices = ()
        self.favourite = 0

    def decide(self):
        """Solve the game and choose what makes a small machine."""
        game = self.solve_game()
        # Where the winner can always take one letter, the machine is far smaller.
        for letter in range(self.outputs if self.is_won() else self.inputs):
            choices = self.steady_choices(game.owners, letter)
            if choices_win(game, self.winners[0], choices, 0):
                self.choices = choices
                self.favourite = letter
                return

    def solve_game(self):
        """Find the winners and some choices; return the game."""
        for state in range(len(self.judge.rows)):
            self.places.number_of(("state", state))
        while self.places.waits(self.answers):
            self.answers.append(self.answers_at(self.places.first_without(self.answers)))
        owners = [1 if kind == "state" else 0 for kind, _ in self.places.order]
        priorities = [what[0] if kind == "step" else 0 for kind, what in self.places.order]
        moves = [sorted(list({target: True for target in met})) for met in self.answers]
        game = Game(owners, priorities, moves)
        solution = solve(game)
        self.winners = solution.winners
        self.choices = solution.choices
        return game

    def steady_choices(self, owners, letter):
        """The choices with those for one letter wherever its position is won by the same player."""
        found = []
        for position, choice in enumerate(self.choices):
            if choice >= 0 and len(self.answers[position]) > letter:
                target = self.answers[position][letter]
                if self.winners[target] == owners[position]:
                    choice = target
            found.append(choice)
        return found

    def answers_at(self, place):
        """The positions to which the letters lead that may be chosen at a position."""
        kind, what = place
        if kind == "state":
            return [self.choice_after(what, heard) for heard in range(self.inputs)]
        if kind == "say":
            return [self.places.number_of(("step", step)) for step in what]
        return [what[1]]

    def steps_after(self, state, heard):
        """The tuple of the steps for each letter that may be emitted, when a letter is heard in a state."""
        row = self.judge.rows[state]
        told = self.judge.ranks[state]
        return tuple([(told[letter], row[letter]) for letter in range(heard, self.judge.letters, self.inputs)])

    def choice_after(self, state, heard):
        """The position at which the system chooses when a letter is heard in a state."""
        return self.places.number_of(("say", self.steps_after(state, heard)))

    def is_won(self):
        """Whether the system wins."""
        return self.winners[0] == 0

    def answer(self, state, heard):
        """The letter that the system emits when a letter is heard in a state."""
        steps = self.steps_after(state, heard)
        _, step = self.places.order[self.choices[self.choice_after(state, heard)]]
        return self.favourite if steps[self.favourite] == step else steps.index(step)

    def challenge(self, state):
        """The letter that the surroundings let be heard in a state."""
        choices = [self.choice_after(state, heard) for heard in range(self.inputs)]
        if choices[self.favourite] == self.choices[state]:
            return self.favourite
        return choices.index(self.choices[state])

    def after(self, state, heard, emitted):
        """The state after a letter is heard and a letter is emitted."""
        return self.judge.rows[state][heard + self.inputs * emitted]


def controller(contest, lead):
    """The machine that wins for the system."""
    places = Places()
    places.number_of(0)
    rows = []
    while places.waits(rows):
        state = places.first_without(rows)
        row = []
        for heard in range(contest.inputs):
            emitted = contest.answer(state, heard)
            row.append((places.number_of(contest.after(state, heard, emitted)), emitted))
        rows.append(row)
    return Machine(contest.inputs, contest.outputs, lead, [], rows)


def counter_strategy(contest, lead):
    """The machine that wins for the surroundings.

    It says one letter more than the lead before it hears anything, because what the
    system emits in its first turns is never said.
    """
    state = 0
    opening = [contest.challenge(state)]
    for turn in range(lead):
        state = contest.after(state, opening[turn], 0)
        opening.append(contest.challenge(state))
    places = Places()
    places.number_of(state)
    rows = []
    while places.waits(rows):
        state = places.first_without(rows)
        row = []
        for said in range(contest.outputs):
            later = contest.after(state, contest.challenge(state), said)
            row.append((places.number_of(later), contest.challenge(later)))
        rows.append(row)
    return Machine(contest.outputs, contest.inputs, -1 - lead, opening, rows)
