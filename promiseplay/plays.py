"""Two machines that play with each other."""

from promiseplay.errors import Mismatch
from promiseplay.words import combine


def play(machine, opponent):
    """The lasso of the play of a machine and an opponent."""
    if opponent.lead != -1 - machine.lead:
        raise Mismatch("the leads do not fit")
    if opponent.inputs != machine.outputs or opponent.outputs != machine.inputs:
        raise Mismatch("the letters do not fit")
    if machine.lead >= 0:
        heard, said = both_words(machine, opponent)
    else:
        said, heard = both_words(opponent, machine)
    return combine(heard, said, machine.inputs)


def both_words(ahead, behind):
    """The lassos of what a machine hears and says that has a lead of at least 0 and plays with another one.

    After as many turns as its lead tells, everything hangs on both states and on
    the last letter that the other machine said.
    """
    heard = list(behind.opening)
    said = []
    state = 0
    other = 0
    turn = 0
    met = {}
    while (state, other, heard[turn]) not in met:
        if turn >= ahead.lead:
            met[(state, other, heard[turn])] = turn
        state, letter = ahead.rows[state][heard[turn]]
        if turn >= ahead.lead:
            said.append(letter)
            other, answer = behind.rows[other][letter]
            heard.append(answer)
        turn += 1
    start = met[(state, other, heard[turn])]
    first = start - ahead.lead
    return (tuple(heard[:start]), tuple(heard[start:turn])), (tuple(said[:first]), tuple(said[first:]))
