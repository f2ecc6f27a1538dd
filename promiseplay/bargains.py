"""The game of a system that pays and earns with its surroundings."""

from promiseplay.machines import Machine
from promiseplay.places import Places
from promiseplay.priced import PricedGame
from promiseplay.purses import Purse

# Where the purse has run short nothing counts any more.
DONE = (-1, -1)


class Bargain:
    """The game over a table of prices with a purse.

    The challenger chooses the first letter of each step, the answerer the second one.
    The first positions are the states of the table, where the challenger chooses. A
    position ("say", ..) has for each letter of the answerer the step to which it leads:
    a triple of a rank, a state and a price. ("step", (rank, state)) is behind a step
    with a rank above 0.
    """

    def __init__(self, fares, lead, capacity):
        self.fares = fares
        self.lead = lead
        self.capacity = capacity
        self.delay = lead if lead >= 0 else -1 - lead
        self.first = fares.first
        self.second = len(fares.rows[0]) // fares.first
        self.places = Places()
        self.owners = []
        self.priorities = []
        self.moves = []
        self.purse = None
        self.steady = []

    def solve(self):
        """Solve the game."""
        for state in range(len(self.fares.rows)):
            self.places.number_of(("state", state))
        while self.places.waits(self.moves):
            met = self.moves_at(self.places.first_without(self.moves))
            self.moves.append(sorted(list({move: True for move in met})))
        challenger = 1 if self.lead >= 0 else 0
        self.owners = [challenger if kind == "state" else 1 - challenger for kind, _ in self.places.order]
        self.priorities = [what[0] if kind == "step" else 0 for kind, what in self.places.order]
        self.purse = self.solved(self.moves)
        # Where the winner may do the same with all amounts, the machine is far smaller.
        for greatest in (True, False):
            choices = [self.choice_with(place, greatest) for place in range(len(self.moves))]
            if not self.steady and self.stays_won(choices):
                self.steady = choices

    def solved(self, moves):
        """The solution of the game with some moves."""
        purse = Purse(PricedGame(self.owners, self.priorities, moves), self.capacity)
        purse.run()
        return purse

    def need(self):
        """The least start amount with which the system wins, or None."""
        return None if self.purse.bounds[0] > self.capacity else self.purse.bounds[0]

    def choice_with(self, place, greatest):
        """The index of the move at a position with the greatest or the least amount with which its owner wins."""
        bound = self.purse.bounds[place]
        least, most = (bound, self.capacity) if self.owners[place] == 0 else (0, bound - 1)
        return max(self.purse.choices[place][most if greatest else least], 0) if least <= most else 0

    def stays_won(self, choices):
        """Whether the winner still wins from the start with the least amount if it always takes one move."""
        winner = 1 if self.need() is None else 0
        moves = []
        for place, pairs in enumerate(self.moves):
            moves.append([pairs[choices[place]]] if self.owners[place] == winner else pairs)
        return self.solved(moves).bounds[0] == self.purse.bounds[0]

    def moves_at(self, place):
        """The moves at a position, pairs of a position and a price, in the order of the letters."""
        kind, what = place
        if kind == "state":
            return [(self.answer_place(what, letter), 0) for letter in range(self.first)]
        if kind == "say":
            return [self.step_move(step) for step in what]
        return [(what[1], 0)]

    def answer_place(self, state, letter):
        """The position of the answerer when the challenger chooses a letter in a state."""
        fares = self.fares
        steps = []
        for whole in range(letter, len(fares.rows[state]), self.first):
            steps.append((fares.ranks[state][whole], fares.rows[state][whole], fares.prices[state][whole]))
        return self.places.number_of(("say", tuple(steps)))

    def step_move(self, step):
        """The move that makes a step."""
        rank, state, price = step
        return (self.places.number_of(("step", (rank, state))), price) if rank > 0 else (state, price)

    def chosen(self, place, amount):
        """The move that is chosen at a position with an amount."""
        return self.moves[place][self.steady[place] if self.steady else self.purse.choices[place][amount]]

    def challenge(self, pair):
        """The letter that the challenger chooses with a state and an amount."""
        if pair == DONE:
            return 0
        state, amount = pair
        return self.moves_at(("state", state)).index(self.chosen(state, amount))

    def answer(self, pair, letter):
        """The letter that the answerer chooses when the challenger has chosen one."""
        if pair == DONE:
            return 0
        place = self.answer_place(pair[0], letter)
        return self.moves_at(self.places.order[place]).index(self.chosen(place, pair[1]))

    def after(self, pair, first, second):
        """The state and the amount behind a step; DONE if it is short."""
        if pair == DONE:
            return DONE
        state, amount = pair
        whole = first + self.first * second
        if self.steady:
            return (self.fares.rows[state][whole], amount)
        left = min(amount + self.fares.prices[state][whole], self.capacity)
        return (self.fares.rows[state][whole], left) if left >= 0 else DONE

    def answerer(self, start):
        """The machine that answers as was chosen, from a start amount on."""
        places = Places()
        places.number_of((0, start))
        rows = []
        while places.waits(rows):
            pair = places.first_without(rows)
            row = []
            for letter in range(self.first):
                told = self.answer(pair, letter)
                row.append((places.number_of(self.after(pair, letter, told)), told))
            rows.append(row)
        return Machine(self.first, self.second, self.delay, [], rows)

    def challenger(self, start):
        """The machine that challenges as was chosen, from a start amount on."""
        pair = (0, start)
        opening = [self.challenge(pair)]
        for turn in range(self.delay):
            # What is answered to the first letters is never said.
            pair = self.after(pair, opening[turn], 0)
            opening.append(self.challenge(pair))
        places = Places()
        places.number_of(pair)
        rows = []
        while places.waits(rows):
            pair = places.first_without(rows)
            row = []
            for told in range(self.second):
                later = self.after(pair, self.challenge(pair), told)
                row.append((places.number_of(later), self.challenge(later)))
            rows.append(row)
        return Machine(self.second, self.first, -1 - self.delay, opening, rows)
