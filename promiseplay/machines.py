"""Machines that hear a letter and say a letter in each turn."""

from promiseplay.errors import InvalidLetter, InvalidMachine
from promiseplay.words import check_letters, combine, normal_lasso, suffix

LEADS = (-3, -2, -1, 0, 1, 2)


class Machine:
    """A machine; an entry of a row is a pair of the next state and the letter that it emits."""

    def __init__(self, inputs, outputs, lead, opening, rows):
        if inputs < 1 or outputs < 1 or lead not in LEADS:
            raise InvalidMachine("there is no letter, or the lead is wrong")
        if len(opening) != max(0, -lead) or not are_below(opening, outputs):
            raise InvalidMachine("the opening is wrong")
        if len(rows) == 0:
            raise InvalidMachine("there is no state")
        for row in rows:
            if len(row) != inputs:
                raise InvalidMachine("a row does not have one entry for each letter")
            if not are_below([pair[0] for pair in row], len(rows)):
                raise InvalidMachine("a next state is no state")
            if not are_below([pair[1] for pair in row], outputs):
                raise InvalidMachine("a letter that is emitted is wrong")
        self.inputs = inputs
        self.outputs = outputs
        self.lead = lead
        self.opening = tuple(opening)
        self.rows = tuple([tuple([tuple(pair) for pair in row]) for row in rows])

    def __call__(self, heard):
        """The list of the letters that the machine has said when it has heard exactly these letters."""
        if not are_below(heard, self.inputs):
            raise InvalidLetter("the machine cannot hear a letter")
        said = list(self.opening)
        state = 0
        for turn, letter in enumerate(heard):
            state, emitted = self.rows[state][letter]
            if turn >= self.lead:
                said.append(emitted)
        return said


def are_below(numbers, count):
    """Whether some integers are all from 0 to count - 1."""
    return min(numbers, default=0) >= 0 and max(numbers, default=0) < count


def emitted_word(machine, state, lasso):
    """The head and the loop, as lists, of what the machine emits from a state on when it hears a lasso."""
    head, loop = lasso
    letters = []
    for letter in head:
        state, emitted = machine.rows[state][letter]
        letters.append(emitted)
    # How many letters there were when the loop was begun in each state.
    begun = {}
    while state not in begun:
        begun[state] = len(letters)
        for letter in loop:
            state, emitted = machine.rows[state][letter]
            letters.append(emitted)
    return letters[:begun[state]], letters[begun[state]:]


def respond(machine, lasso):
    """The lasso of the word that the machine says when it hears the word of a lasso."""
    check_letters(lasso, machine.inputs)
    head, loop = emitted_word(machine, 0, lasso)
    return said_word(machine, head, loop)


def said_word(machine, head, loop):
    """The lasso of what is said with the lead and the opening of a machine; head and loop are what is emitted."""
    if machine.lead > 0:
        return suffix((tuple(head), tuple(loop)), machine.lead)
    return normal_lasso(list(machine.opening) + head, loop)


def trace(machine, lasso):
    """The lasso of the word of what the machine hears and says when it hears the word of a lasso."""
    return combine(lasso, respond(machine, lasso), machine.inputs)
