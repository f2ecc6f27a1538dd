"""Systems that see some of the inputs alone."""

from promiseplay.conditions import spec_judge
from promiseplay.courses import check_machine
from promiseplay.errors import InvalidSight
from promiseplay.guesses import guessed_word
from promiseplay.machines import Machine
from promiseplay.signals import part_table
from promiseplay.synthesis import decided
from promiseplay.unseen import sighted_judge
from promiseplay.words import check_letters, relabel


def check_sight(spec, seen):
    """Raise InvalidSight if a tuple is no sight of a specification."""
    if [name for name in spec.inputs if name in seen] != list(seen):
        raise InvalidSight("the tuple does not have different names of inputs in their order")


def visible_parts(spec, seen):
    """The visible part of each letter over the signals of a specification."""
    return part_table(spec.signals, tuple(seen) + spec.outputs)


def visible(spec, seen, lasso):
    """The lasso of the visible part of a word."""
    check_sight(spec, seen)
    return relabel(lasso, visible_parts(spec, seen))


def lifted(spec, seen, machine):
    """The machine that hears all inputs and does what a sighted system does."""
    check_sight(spec, seen)
    check_machine(machine, 1 << len(seen), 1 << len(spec.outputs), spec.lead)
    parts = part_table(spec.inputs, seen)
    rows = [[row[part] for part in parts] for row in machine.rows]
    return Machine(len(parts), machine.outputs, machine.lead, machine.opening, rows)


def completion(spec, seen, lasso):
    """A lasso that does not satisfy a specification and has a given word as its visible part; None for none."""
    check_sight(spec, seen)
    parts = visible_parts(spec, seen)
    check_letters(lasso, max(parts) + 1)
    letters_of = [[] for _ in range(max(parts) + 1)]
    for letter, part in enumerate(parts):
        letters_of[part].append((letter, 0))
    return guessed_word(spec_judge(spec), lasso, letters_of, 0)


def synthesize_sighted(spec, seen):
    """The verdict on a specification for systems that see some of the inputs alone."""
    check_sight(spec, seen)
    return decided(sighted_judge(spec, seen), 1 << len(seen), spec.lead)
