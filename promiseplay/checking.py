"""Whether a machine meets a specification."""

from promiseplay.delays import judge_with_lead
from promiseplay.errors import Mismatch
from promiseplay.places import Places
from promiseplay.ranked import find_ranked
from promiseplay.specs import dual
from promiseplay.words import normal_lasso


def check_system(spec, machine):
    """Raise Mismatch if a machine is not a system for a specification."""
    if machine.lead != spec.lead:
        raise Mismatch("the machine has another lead")
    if machine.inputs != 1 << len(spec.inputs) or machine.outputs != 1 << len(spec.outputs):
        raise Mismatch("the machine has other letters")


def breaking_word(spec, machine):
    """None if a machine meets a specification, otherwise a lasso with which its trace does not satisfy it."""
    check_system(spec, machine)
    run = AheadRun(spec, machine) if spec.lead < 0 else LaterRun(spec, machine)
    steps = []
    while run.places.waits(steps):
        place = run.places.first_without(steps)
        steps.append([run.step(place, heard) for heard in range(machine.inputs)])
    found = find_ranked(steps, [0], run.broken, [True for _ in steps])
    return None if found is None else normal_lasso(found[0], found[1])


class LaterRun:
    """The runs of a machine whose lead is not negative, with a judge of what it hears and emits.

    `broken` is the parity of the greatest rank with which a run breaks the specification.
    """

    def __init__(self, spec, machine):
        self.machine = machine
        self.judge = judge_with_lead(spec)
        self.broken = 1
        self.places = Places()
        self.places.number_of((0, 0))

    def step(self, place, heard):
        """The step from a place when a letter is heard."""
        state, judged = place
        target, emitted = self.machine.rows[state][heard]
        letter = heard + self.machine.inputs * emitted
        later = self.places.number_of((target, self.judge.rows[judged][letter]))
        return (heard, later, self.judge.ranks[judged][letter])


class AheadRun:
    """The runs of a machine whose lead is negative, likewise.

    Seen from the other side, what is heard answers what is said. So the judge is that of
    the dual, and reads the letter that was said last together with the next one heard.
    """

    def __init__(self, spec, machine):
        self.machine = machine
        self.judge = judge_with_lead(dual(spec))
        self.broken = 0
        judged = 0
        for letter in machine.opening[:-1]:
            judged = self.judge.rows[judged][letter]
        self.places = Places()
        self.places.number_of((0, judged, machine.opening[-1]))

    def step(self, place, heard):
        """The step from a place when a letter is heard."""
        state, judged, said = place
        target, emitted = self.machine.rows[state][heard]
        letter = said + self.machine.outputs * heard
        later = self.places.number_of((target, self.judge.rows[judged][letter], emitted))
        return (heard, later, self.judge.ranks[judged][letter])
