"""The search for a word that a judge rejects and that may be the true one behind another word."""

from promiseplay.places import Places
from promiseplay.ranked import find_ranked
from promiseplay.words import normal_lasso


def guessed_word(judge, lasso, guesses, most):
    """A lasso that a judge rejects, each letter of which is a guess at that of another lasso; None for none.

    guesses has for each letter of the other lasso the list of the letters that may stand
    for it, as pairs of a letter and what it costs. All may cost at most so much together.
    """
    head, loop = lasso
    letters = tuple(head) + tuple(loop)
    places = Places()
    places.number_of((0, 0, 0))
    steps = []
    while places.waits(steps):
        turn, state, spent = places.first_without(steps)
        later = turn + 1 if turn + 1 < len(letters) else len(head)
        row = []
        for letter, cost in guesses[letters[turn]]:
            if spent + cost <= most:
                target = places.number_of((later, judge.rows[state][letter], spent + cost))
                row.append((letter, target, judge.ranks[state][letter]))
        steps.append(row)
    found = find_ranked(steps, [0], 1, [True for _ in steps])
    return None if found is None else normal_lasso(found[0], found[1])
