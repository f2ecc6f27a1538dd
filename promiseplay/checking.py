"""Whether a machine meets a specification."""

from promiseplay.courses import Run, check_system, course_of
from promiseplay.ranked import find_ranked
from promiseplay.words import normal_lasso


def breaking_word(spec, machine):
    """None if a machine meets a specification, otherwise a lasso with which its trace does not satisfy it."""
    check_system(spec, machine)
    return breaking_on(course_of(spec), machine)


def breaking_on(course, machine):
    """None if all runs of a machine keep what a course judges, otherwise a lasso that it hears in another one."""
    run = Run(course, machine)
    run.begin()
    steps = run.explore()
    found = find_ranked(steps, [0], course.broken, [True for _ in steps])
    return None if found is None else normal_lasso(found[0], found[1])
