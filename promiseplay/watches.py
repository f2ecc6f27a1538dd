"""What several watches tell together, and what a watch can still come to tell."""

from promiseplay.courses import Run, check_system, course_of
from promiseplay.errors import Mismatch
from promiseplay.graphs import on_cycles, reached, reversed_edges
from promiseplay.judges import cycle_nodes
from promiseplay.monitors import Monitor
from promiseplay.places import Places
from promiseplay.refinement import merged_table

MOST_SPECS = 3

# What is told of a system, by whether it can still break and whether it can still keep what is asked for.
TOLD = {(True, True): "open", (False, True): "kept", (True, False): "broken"}


class Table:
    """A verdict for each state, and a next state for each state and each letter."""

    def __init__(self, verdicts, rows):
        self.verdicts = tuple(verdicts)
        self.rows = tuple([tuple(row) for row in rows])


def least_table(verdicts, rows):
    """The table with the fewest states that tells the same behind each word, from state 0 on."""
    chosen, merged = merged_table(0, verdicts, rows)
    return Table([verdicts[state] for state in chosen], merged)


def watch(specs):
    """The table of the verdicts of some specifications."""
    if len(specs) < 1 or len(specs) > MOST_SPECS:
        raise Mismatch("there are not 1 to 3 specifications")
    for spec in specs:
        if spec.inputs != specs[0].inputs or spec.outputs != specs[0].outputs:
            raise Mismatch("the signals differ")
    monitors = [Monitor(spec) for spec in specs]
    places = Places()
    places.number_of(tuple([0 for _ in monitors]))
    rows = []
    while places.waits(rows):
        states = places.first_without(rows)
        told = [monitor.rows[states[k]] for k, monitor in enumerate(monitors)]
        rows.append([places.number_of(tuple([row[letter] for row in told])) for letter in range(len(told[0]))])
    verdicts = []
    for states in places.order:
        verdicts.append(tuple([monitor.verdicts[states[k]] for k, monitor in enumerate(monitors)]))
    return least_table(verdicts, rows)


def forecast(spec, verdict):
    """For each state of a monitor the least number of letters behind which it can tell a verdict, or None."""
    monitor = Monitor(spec)
    back = reversed_edges(monitor.rows)
    found = [None] * len(back)
    queue = []
    for state, told in enumerate(monitor.verdicts):
        if told == verdict:
            found[state] = 0
            queue.append(state)
    at = 0
    while at < len(queue):
        target = queue[at]
        at += 1
        for state in back[target]:
            if found[state] is None:
                found[state] = found[target] + 1
                queue.append(state)
    return found


def patience(spec):
    """For each state of a monitor the greatest number of letters behind which it can tell "open"; None for any.

    It is -1 for a state that does not tell it.
    """
    monitor = Monitor(spec)
    still_open = [told == "open" for told in monitor.verdicts]
    edges = []
    for state, row in enumerate(monitor.rows):
        edges.append([target for target in row if still_open[state] and still_open[target]])
    cyclic = on_cycles(edges)
    endless = reached(reversed_edges(edges), [state for state, truth in enumerate(cyclic) if truth])
    found = [0 if truth else -1 for truth in still_open]
    # A longest way goes through each state at most once.
    for _ in edges:
        for state, targets in enumerate(edges):
            if targets and not endless[state]:
                found[state] = 1 + max([found[target] for target in targets])
    return [None if endless[state] else steps for state, steps in enumerate(found)]


def machine_watch(spec, machine):
    """The table that tells whether a system keeps or breaks a specification, whatever it hears from then on."""
    check_system(spec, machine)
    course = course_of(spec)
    run = Run(course, machine)
    run.begin()
    steps = run.explore()
    rows = [[target for _, target, _ in row] for row in steps]
    ranks = [[rank for _, _, rank in row] for row in steps]
    back = reversed_edges(rows)
    can_break = reached(back, cycle_nodes(rows, ranks, course.broken))
    can_keep = reached(back, cycle_nodes(rows, ranks, 1 - course.broken))
    return least_table([TOLD[pair] for pair in zip(can_break, can_keep)], rows)
