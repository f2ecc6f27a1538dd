"""Machines with as few states as possible, and what tells two machines apart."""

from promiseplay.errors import Mismatch
from promiseplay.machines import Machine
from promiseplay.places import Places
from promiseplay.refinement import merged_table


def minimize(machine):
    """The minimized machine."""
    labels = [tuple([letter for _, letter in row]) for row in machine.rows]
    chosen, merged = merged_table(0, labels, [[target for target, _ in row] for row in machine.rows])
    rows = []
    for number, state in enumerate(chosen):
        rows.append(list(zip(merged[number], labels[state])))
    return Machine(machine.inputs, machine.outputs, machine.lead, machine.opening, rows)


def separating_word(first, second):
    """None if two machines are alike, otherwise the list of letters that first tells them apart."""
    if first.inputs != second.inputs or first.outputs != second.outputs or first.lead != second.lead:
        raise Mismatch("the machines do not have the same letters and the same lead")
    if first.opening != second.opening:
        return []
    return first_separating(first, 0, second, 0)


def first_separating(first, state, second, other):
    """The first shortest list of letters at whose end two machines emit different ones, or None.

    The machines begin in the states that are given.
    """
    places = Places()
    places.number_of((state, other))
    # The place and the letter that led to each place. Places are met in the order of
    # their first shortest words, so the first letter that tells them apart is asked for.
    before = [None]
    at = 0
    while at < len(before):
        left, right = places.order[at]
        for letter in range(first.inputs):
            target, emitted = first.rows[left][letter]
            another, told = second.rows[right][letter]
            if emitted != told:
                return path_to(before, at) + [letter]
            if places.number_of((target, another)) == len(before):
                before.append((at, letter))
        at += 1
    return None


def path_to(before, at):
    """The list of the letters that led to a place."""
    letters = []
    while before[at] is not None:
        at, letter = before[at]
        letters.append(letter)
    letters.reverse()
    return letters
