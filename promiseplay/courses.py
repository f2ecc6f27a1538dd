"""What judges say of the turns of machines, whatever the lead of these is."""

from promiseplay.conditions import spec_judge
from promiseplay.delays import delayed_by
from promiseplay.errors import Mismatch
from promiseplay.judges import other_side
from promiseplay.places import Places


def check_system(spec, machine):
    """Raise Mismatch if a machine is not a system for a specification."""
    check_machine(machine, 1 << len(spec.inputs), 1 << len(spec.outputs), spec.lead)


def check_machine(machine, inputs, outputs, lead):
    """Raise Mismatch if a machine has another lead or other numbers of letters."""
    if machine.lead != lead:
        raise Mismatch("the machine has another lead")
    if machine.inputs != inputs or machine.outputs != outputs:
        raise Mismatch("the machine has other letters")


class Course:
    """A table that judges what is heard and emitted, turn by turn.

    With a lead that is not negative a step of the table reads a letter that is heard
    and the letter emitted then. Otherwise (`ahead`) it reads the letter that was said
    last and the one heard next: seen from the other side, what is heard answers what
    is said. `first` is the number of the letters that come first in a step. A point is
    the tuple of the state of the table and, with `ahead`, the letter that was said last.
    A run breaks what is asked for if its greatest rank has the parity `broken`.
    """

    def __init__(self, table, first, ahead, broken):
        self.table = table
        self.first = first
        self.ahead = ahead
        self.broken = broken

    def start(self, opening):
        """The point ahead of what a machine with an opening hears."""
        if not self.ahead:
            return (0,)
        judged = 0
        for letter in opening[:-1]:
            judged = self.table.rows[judged][letter]
        return (judged, opening[-1])

    def letter(self, point, heard, emitted):
        """The letter that the table reads when a letter is heard and one is emitted at a point."""
        return point[1] + self.first * heard if self.ahead else heard + self.first * emitted

    def step(self, point, heard, emitted):
        """The point and the rank to which such a turn leads."""
        letter = self.letter(point, heard, emitted)
        judged = self.table.rows[point[0]][letter]
        later = (judged, emitted) if self.ahead else (judged,)
        return later, self.table.ranks[point[0]][letter]


def course_of(spec):
    """The course of a specification."""
    return judged_course(spec_judge(spec), 1 << len(spec.inputs), spec.lead)


def judged_course(judge, inputs, lead):
    """The course of a judge of what machines with a lead hear and say; inputs is the number of letters heard."""
    if lead >= 0:
        return Course(delayed_by(judge, inputs, lead), inputs, False, 1)
    outputs = judge.letters // inputs
    return Course(delayed_by(other_side(judge, inputs), outputs, -1 - lead), outputs, True, 0)


class Run:
    """The runs of a machine with a course: its places are tuples of a state and a point."""

    def __init__(self, course, machine):
        self.course = course
        self.machine = machine
        self.places = Places()

    def begin(self):
        """Enter the place ahead of what the machine hears."""
        self.places.number_of((0, self.course.start(self.machine.opening)))

    def step(self, place, heard):
        """The step from a place when a letter is heard: the letter, the number of the next place and the rank."""
        state, point = place
        target, emitted = self.machine.rows[state][heard]
        later, rank = self.course.step(point, heard, emitted)
        return (heard, self.places.number_of((target, later)), rank)

    def explore(self):
        """The list of the steps from each place that is reached from those that have a number."""
        steps = []
        while self.places.waits(steps):
            place = self.places.first_without(steps)
            steps.append([self.step(place, heard) for heard in range(self.machine.inputs)])
        return steps
