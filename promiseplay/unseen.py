"""Judges of words of which not all is known: some inputs are not seen, or some turns are heard wrongly.

What is asked is whether some word that may be the true one does not satisfy a
specification. For that there is an automaton, which guesses the true word. It is
made for small parts of the specification, so that it is easy to make deterministic.
"""

from promiseplay.buchi import Automaton
from promiseplay.conditions import Conditions, spec_judge, taken_apart
from promiseplay.description import conjunction
from promiseplay.formulas import TRUE, formula_of, signal_names
from promiseplay.judges import judge_of, opposite_judge
from promiseplay.operations import hide, intersection
from promiseplay.outcomes import QUANTIFIERS, negation
from promiseplay.places import Places
from promiseplay.reduction import smaller
from promiseplay.tableau import formula_automaton
from promiseplay.translation import translate

# How many trees are tried for the whole of a specification, ahead of its parts.
MOST_TREES = 1500


def parts_of(prop):
    """Properties all of which are true exactly where a property is."""
    if prop[0] == "exists":
        return [prop]
    if prop[0] == "forall":
        return [("forall", prop[1], part) for part in taken_apart(prop[2])]
    return taken_apart(prop)


def troubles(spec):
    """Lists of properties: a word does not satisfy a specification exactly if all those of one list are true."""
    if spec.negated:
        return [[negation(prop)] for prop in spec.assumptions] + [list(spec.guarantees)]
    found = []
    for prop in spec.guarantees:
        for part in parts_of(prop):
            found.append(list(spec.assumptions) + [negation(part)])
    return found


def used_names(prop, names):
    """Those of some names, in their order, that a property has."""
    used = signal_names(formula_of(prop))
    return [name for name in names if name in used]


def common_automaton(properties, names, hidden):
    """An automaton of the words over names for which hidden signals have values with which all properties are true."""
    formulas = [prop for prop in properties if prop[0] not in QUANTIFIERS]
    quantified = [prop for prop in properties if prop[0] in QUANTIFIERS]
    if not quantified:
        return formula_automaton(conjunction(formulas), names, hidden)
    automaton = formula_automaton(conjunction(formulas), names + hidden, [])
    for prop in quantified:
        automaton = smaller(intersection(automaton, translate(prop, names + hidden)))
    return hide(automaton, 1 << len(names))


def linked_groups(properties, names):
    """The properties in groups, such that no name of the names stands in two groups.

    Each group is a pair of the list of its properties and that of the names in them.
    """
    groups = []
    for prop in properties:
        used = used_names(prop, names)
        members = [prop]
        apart = []
        for group, taken in groups:
            if [name for name in taken if name in used]:
                members = group + members
                used = [name for name in names if name in used or name in taken]
            else:
                apart.append((group, taken))
        groups = apart + [(members, used)]
    return groups


def without_trouble(conditions, judges):
    """The judge of the words that none of some judges accepts."""
    return conditions.all_of([conditions.of_formula(TRUE)] + [opposite_judge(judge) for judge in judges])


def sighted_judge(spec, seen):
    """A judge of the words over the signals of a sight and the outputs that do not hide trouble."""
    unseen = [name for name in spec.inputs if name not in seen]
    if not unseen:
        return spec_judge(spec)
    conditions = Conditions(list(seen) + list(spec.outputs))
    found = [unseen_trouble(conditions, properties, unseen) for properties in troubles(spec)]
    return without_trouble(conditions, found)


def unseen_trouble(conditions, properties, unseen):
    """The judge of the words for which unseen signals have values with which all properties are true."""
    parts = [part for prop in properties for part in parts_of(prop)]
    open_parts = [part for part in parts if not used_names(part, unseen)]
    judges = [conditions.of_property(part) for part in [TRUE] + open_parts]
    for group, used in linked_groups([part for part in parts if used_names(part, unseen)], unseen):
        judges.append(judge_of(common_automaton(group, conditions.names, used), None))
    return conditions.all_of(judges)


def bearing_judge(spec, faults):
    """A judge of what is heard and said where all true words with at most so many faults satisfy a specification."""
    inputs = list(spec.inputs)
    if faults == 0 or not inputs:
        return spec_judge(spec)
    found = faulted_judge(opposite_judge(spec_judge(spec)), 1 << len(inputs), faults, MOST_TREES)
    if found is not None:
        return opposite_judge(found)
    conditions = Conditions(list(spec.signals))
    return without_trouble(conditions, [faulted_trouble(conditions, each, inputs, faults) for each in troubles(spec)])


def faulted_trouble(conditions, properties, inputs, faults):
    """The judge of the words for which all properties are true of a word with other inputs in a few turns."""
    parts = [part for prop in properties for part in parts_of(prop)]
    judges = [conditions.of_property(part) for part in [TRUE] + parts if not used_names(part, inputs)]
    doubtful = [conditions.of_property(part) for part in parts if used_names(part, inputs)]
    if doubtful:
        judges.append(faulted_judge(conditions.all_of(doubtful), 1 << len(inputs), faults, None))
    return conditions.all_of(judges)


def faulted_judge(judge, inputs, faults, limit):
    """The judge of the words that a judge accepts with other inputs in at most so many turns.

    It is None if more trees are needed than a limit says; None is no limit.
    """
    # What was deterministic once becomes so again more easily than what never was.
    return judge_of(faulted(smaller(judge_automaton(judge)), inputs, faults), limit)


def judge_automaton(judge):
    """A Buchi automaton of the words that a judge accepts.

    At some turn it guesses the greatest rank that will occur again and again.
    """
    guesses = sorted(list({rank: True for told in judge.ranks for rank in told if rank % 2 == 0}))
    places = Places()
    places.number_of((0, -1, False))
    rows = []
    while places.waits(rows):
        state, guess, _ = places.first_without(rows)
        row = []
        for letter, target in enumerate(judge.rows[state]):
            rank = judge.ranks[state][letter]
            later = []
            if guess < 0:
                later = [(target, -1, False)] + [(target, most, False) for most in guesses]
            elif rank <= guess:
                later = [(target, guess, rank == guess)]
            row.append(sorted([places.number_of(place) for place in later]))
        rows.append(row)
    accepting = [number for number, (_, _, seen) in enumerate(places.order) if seen]
    return Automaton(judge.letters, [0], accepting, rows)


def faulted(automaton, inputs, faults):
    """An automaton of the words that another one accepts with other inputs in at most so many turns."""
    places = Places()
    for state in automaton.initial:
        places.number_of((state, 0))
    initial = list(range(len(places.order)))
    rows = []
    while places.waits(rows):
        state, count = places.first_without(rows)
        row = []
        for letter in range(automaton.letters):
            targets = {places.number_of((target, count)): True for target in automaton.rows[state][letter]}
            if count < faults:
                for target in mistaken(automaton.rows[state], letter, inputs):
                    targets[places.number_of((target, count + 1))] = True
            row.append(sorted(list(targets)))
        rows.append(row)
    if not rows:
        return automaton
    accepting = [number for number, (state, _) in enumerate(places.order) if state in automaton.accepting]
    return Automaton(automaton.letters, initial, accepting, rows)


def mistaken(row, letter, inputs):
    """The states to which the letters lead that have another input than a letter, and the same output."""
    said = letter - letter % inputs
    return [target for heard in range(inputs) if said + heard != letter for target in row[said + heard]]
