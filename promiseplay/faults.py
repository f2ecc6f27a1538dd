"""Systems that hear wrongly in a few turns."""

from promiseplay.conditions import spec_judge
from promiseplay.courses import check_system, course_of
from promiseplay.guesses import guessed_word
from promiseplay.mistakes import bearing_judge
from promiseplay.places import Places
from promiseplay.ranked import find_ranked
from promiseplay.synthesis import decided
from promiseplay.words import check_letters, normal_lasso


def fault_trouble(spec, machine, k):
    """None if a machine bears k faults, otherwise a true and a heard word for which the specification is broken."""
    check_system(spec, machine)
    return trouble_on(course_of(spec), machine, k)


def borne(spec, machine, most):
    """The greatest number of at most so many faults that a machine bears, or -1."""
    check_system(spec, machine)
    course = course_of(spec)
    for k in range(most + 1):
        if trouble_on(course, machine, k) is not None:
            return k - 1
    return most


def trouble_on(course, machine, faults):
    """A true and a heard word, as lassos, with at most so many faults that a course does not let pass; or None."""
    places = Places()
    places.number_of((0, course.start(machine.opening), 0))
    pairs = [(true, heard) for true in range(machine.inputs) for heard in range(machine.inputs)]
    steps = []
    while places.waits(steps):
        state, point, count = places.first_without(steps)
        row = []
        for number, (true, heard) in enumerate(pairs):
            wrong = 0 if true == heard else 1
            if count + wrong <= faults:
                target, emitted = machine.rows[state][heard]
                later, rank = course.step(point, true, emitted)
                row.append((number, places.number_of((target, later, count + wrong)), rank))
        steps.append(row)
    found = find_ranked(steps, [0], course.broken, [True for _ in steps])
    if found is None:
        return None
    return lasso_of(found, pairs, 0), lasso_of(found, pairs, 1)


def lasso_of(found, pairs, side):
    """The lasso of the first or of the second letters of the pairs whose numbers a head and a loop have."""
    head, loop = found
    return normal_lasso([pairs[number][side] for number in head], [pairs[number][side] for number in loop])


def true_word(spec, lasso, k):
    """A lasso of true inputs that breaks a specification though at most k turns were heard wrongly; None for none."""
    check_letters(lasso, 1 << len(spec.signals))
    inputs = 1 << len(spec.inputs)
    guesses = []
    for letter in range(1 << len(spec.signals)):
        said = letter - letter % inputs
        guesses.append([(said + true, 0 if said + true == letter else 1) for true in range(inputs)])
    found = guessed_word(spec_judge(spec), lasso, guesses, k)
    if found is None:
        return None
    return normal_lasso([letter % inputs for letter in found[0]], [letter % inputs for letter in found[1]])


def synthesize_bearing(spec, k):
    """The verdict on a specification for systems that bear k faults."""
    return decided(bearing_judge(spec, k), 1 << len(spec.inputs), spec.lead)
