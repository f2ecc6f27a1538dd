"""Shields: what may be said so that a safe specification can still be satisfied."""

from promiseplay.conditions import spec_judge
from promiseplay.errors import InvalidLetter, Mismatch, NotRealizable, NotSafe
from promiseplay.judges import cycle_nodes, ends_of
from promiseplay.places import Places
from promiseplay.refinement import coarsest


def is_safe(spec):
    """Whether each word that does not satisfy a specification begins with a word on which it is broken."""
    judge = spec_judge(spec)
    return not any([not lost for lost in lost_at(judge, cycle_nodes(judge.rows, judge.ranks, 1))])


def lost_at(judge, states):
    """Of each of some states of a judge whether no word is accepted from there."""
    ends = ends_of(judge)
    return [ends[state] == (1,) for state in states]


def freedom(spec):
    """The tuple of the rows of the freedom of a specification."""
    if spec.lead != 0:
        raise Mismatch("the lead is not 0")
    if not is_safe(spec):
        raise NotSafe("the specification is not safe")
    judge = spec_judge(spec)
    kept = keepable_states(judge, 1 << len(spec.inputs))
    if not kept[0]:
        raise NotRealizable("the specification is not realizable")
    # All that is not allowed leads to one state more.
    sink = len(kept)
    rows = []
    for row in judge.rows:
        rows.append([target if kept[target] else sink for target in row])
    rows.append([sink for _ in range(judge.letters)])
    return numbered_rows(coarsest(kept + [False], rows), rows)


def keepable_states(judge, inputs):
    """For each state of a judge of a safe specification whether a system can keep the specification from there on."""
    kept = [not lost for lost in lost_at(judge, list(range(len(judge.rows))))]
    changed = True
    while changed:
        changed = False
        for state, row in enumerate(judge.rows):
            if kept[state] and not all([can_answer(row, heard, inputs, kept) for heard in range(inputs)]):
                kept[state] = False
                changed = True
    return kept


def can_answer(row, heard, inputs, kept):
    """Whether some letter leads to a state that is kept when a letter is heard."""
    return any([kept[target] for target in row[heard::inputs]])


def numbered_rows(classes, rows):
    """The rows of the classes of states in the order in which they are first reached; -1 stands for the last state."""
    members = {number: state for state, number in enumerate(classes)}
    places = Places()
    places.number_of(classes[0])
    found = []
    while places.waits(found):
        row = []
        for target in rows[members[places.first_without(found)]]:
            row.append(-1 if target == len(rows) - 1 else places.number_of(classes[target]))
        found.append(tuple(row))
    return tuple(found)


class Shield:
    """A shield for a specification; `changed` tells how many wishes it has changed."""

    def __init__(self, spec):
        self.rows = freedom(spec)
        self.inputs = 1 << len(spec.inputs)
        self.state = 0
        self.changed = 0

    def say(self, heard, wish):
        """The letter that is said when a letter is heard and another one is wished for."""
        row = self.rows[self.state]
        if heard < 0 or heard >= self.inputs or wish < 0 or wish >= len(row) // self.inputs:
            raise InvalidLetter("a letter is none over the inputs or the outputs")
        answers = row[heard::self.inputs]
        letter = wish
        if answers[wish] < 0:
            letter = [target >= 0 for target in answers].index(True)
            self.changed += 1
        self.state = answers[letter]
        return letter
