"""Exchanging a running system for another one."""

from promiseplay.courses import Run, check_system, course_of
from promiseplay.errors import Mismatch
from promiseplay.graphs import reached, reversed_edges
from promiseplay.judges import cycle_nodes
from promiseplay.machines import emitted_word, said_word
from promiseplay.ranked import find_ranked
from promiseplay.refinement import coarsest
from promiseplay.words import combine, normal_lasso

# What stands in a list of letters where one system is exchanged for the other.
SWITCH = -1


def explored(spec, old, new):
    """The places that the old system comes to, and the run of the new one from all its states there."""
    course = course_of(spec)
    before = Run(course, old)
    before.begin()
    steps = before.explore()
    after = Run(course, new)
    for _, point in before.places.order:
        for state in range(len(new.rows)):
            after.places.number_of((state, point))
    return before.places.order, steps, after, after.explore()


def safe_pairs(spec, old, new):
    """The ascending tuple of the safe pairs of states."""
    check_system(spec, old)
    check_system(spec, new)
    met, _, after, steps = explored(spec, old, new)
    rows = [[target for _, target, _ in row] for row in steps]
    ranks = [[rank for _, _, rank in row] for row in steps]
    can_break = reached(reversed_edges(rows), cycle_nodes(rows, ranks, after.course.broken))
    wrong = {}
    for state, point in met:
        for later in range(len(new.rows)):
            if can_break[after.places.numbers[(later, point)]]:
                wrong[(state, later)] = True
    return tuple([(s, t) for s in range(len(old.rows)) for t in range(len(new.rows)) if (s, t) not in wrong])


def switch_trouble(spec, old, new, s, t):
    """None if a pair of states is safe, otherwise what is heard ahead of the exchange and behind it."""
    check_system(spec, old)
    check_system(spec, new)
    met, before, after, behind = explored(spec, old, new)
    steps = []
    for number, (state, point) in enumerate(met):
        # What the old system does for ever is no trouble of the exchange: its steps lead to no goal.
        row = list(before[number])
        if state == s:
            row.append((SWITCH, len(met) + after.places.numbers[(t, point)], 0))
        steps.append(row)
    for row in behind:
        steps.append([(heard, len(met) + target, rank) for heard, target, rank in row])
    edges = [[target for _, target, _ in row] for row in steps]
    found = [row if truth else [] for row, truth in zip(steps, reached(edges, [0]))]
    run = find_ranked(found, [0], after.course.broken, [number >= len(met) for number in range(len(steps))])
    if run is None:
        return None
    head, loop = run
    cut = head.index(SWITCH)
    return head[:cut], normal_lasso(head[cut + 1:], loop)


def switched(old, new, u, t, rest):
    """The lasso of what is heard and said if one system hears u, and another one goes on in a state t with the rest."""
    check_same_letters(old, new)
    if old.lead != new.lead:
        raise Mismatch("the leads differ")
    state = 0
    emitted = []
    for letter in u:
        state, told = old.rows[state][letter]
        emitted.append(told)
    head, loop = emitted_word(new, t, rest)
    heard = normal_lasso(list(u) + list(rest[0]), rest[1])
    return combine(heard, said_word(old, emitted + head, loop), old.inputs)


def alike_pairs(old, new):
    """The ascending tuple of the pairs of states from which on two machines emit the same letters."""
    check_same_letters(old, new)
    shift = len(old.rows)
    labels = []
    rows = []
    for machine, first in ((old, 0), (new, shift)):
        for row in machine.rows:
            labels.append(tuple([letter for _, letter in row]))
            rows.append([first + target for target, _ in row])
    classes = coarsest(labels, rows)
    return tuple([(s, t) for s in range(shift) for t in range(len(new.rows)) if classes[s] == classes[shift + t]])


def check_same_letters(old, new):
    """Raise Mismatch if two machines do not have the same numbers of letters."""
    if old.inputs != new.inputs or old.outputs != new.outputs:
        raise Mismatch("the machines do not have the same letters")
