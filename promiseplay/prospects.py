"""Words that begin in a given way and satisfy a specification, or do not."""

from promiseplay.conditions import spec_judge
from promiseplay.errors import InvalidLetter
from promiseplay.graphs import reached
from promiseplay.machines import are_below
from promiseplay.ranked import find_ranked
from promiseplay.words import normal_lasso


def prospects(spec, word):
    """A lasso that begins with a word and satisfies a specification, and one that does not; None for none."""
    if not are_below(word, 1 << len(spec.signals)):
        raise InvalidLetter("a letter is none over the signals")
    judge = spec_judge(spec)
    state = 0
    for letter in word:
        state = judge.rows[state][letter]
    steps = []
    met = reached(judge.rows, [state])
    for source, row in enumerate(judge.rows):
        # What cannot be reached any more has no steps, so that no run is found there.
        told = judge.ranks[source]
        steps.append([(letter, target, told[letter]) for letter, target in enumerate(row)] if met[source] else [])
    found = []
    for parity in (0, 1):
        run = find_ranked(steps, [state], parity, [True for _ in steps])
        found.append(None if run is None else normal_lasso(list(word) + run[0], run[1]))
    return (found[0], found[1])
