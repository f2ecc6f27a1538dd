"""Judges of words of which some inputs are not seen.

What is asked is whether some word that may be the true one does not satisfy a
specification. For that there is an automaton, which guesses the true word. It is
made for small parts of the specification, so that it is easy to make deterministic.
"""

from promiseplay.conditions import Conditions, spec_judge, taken_apart
from promiseplay.description import conjunction
from promiseplay.formulas import TRUE, formula_of, signal_names
from promiseplay.judges import judge_of, opposite_judge
from promiseplay.operations import hide, intersection
from promiseplay.outcomes import QUANTIFIERS, negation
from promiseplay.reduction import smaller
from promiseplay.tableau import formula_automaton
from promiseplay.translation import translate


def parts_of(prop):
    """Properties all of which are true exactly where a property is."""
    if prop[0] == "exists":
        return [prop]
    if prop[0] == "forall":
        return [("forall", prop[1], part) for part in taken_apart(prop[2])]
    return taken_apart(prop)


def troubles(spec):
    """Lists of properties: a word does not satisfy a specification exactly if all those of one list are true."""
    if spec.negated:
        return [[negation(prop)] for prop in spec.assumptions] + [list(spec.guarantees)]
    found = []
    for prop in spec.guarantees:
        for part in parts_of(prop):
            found.append(list(spec.assumptions) + [negation(part)])
    return found


def used_names(prop, names):
    """Those of some names, in their order, that a property has."""
    used = signal_names(formula_of(prop))
    return [name for name in names if name in used]


def common_automaton(properties, names, hidden):
    """An automaton of the words over names for which hidden signals have values with which all properties are true."""
    formulas = [prop for prop in properties if prop[0] not in QUANTIFIERS]
    quantified = [prop for prop in properties if prop[0] in QUANTIFIERS]
    if not quantified:
        return formula_automaton(conjunction(formulas), names, hidden)
    automaton = formula_automaton(conjunction(formulas), names + hidden, [])
    for prop in quantified:
        automaton = smaller(intersection(automaton, translate(prop, names + hidden)))
    return hide(automaton, 1 << len(names))


def linked_groups(properties, names):
    """The properties in groups, such that no name of the names stands in two groups.

    Each group is a pair of the list of its properties and that of the names in them.
    """
    groups = []
    for prop in properties:
        used = used_names(prop, names)
        members = [prop]
        apart = []
        for group, taken in groups:
            if [name for name in taken if name in used]:
                members = group + members
                used = [name for name in names if name in used or name in taken]
            else:
                apart.append((group, taken))
        groups = apart + [(members, used)]
    return groups


def without_trouble(conditions, judges):
    """The judge of the words that none of some judges accepts."""
    return conditions.all_of([conditions.of_formula(TRUE)] + [opposite_judge(judge) for judge in judges])


def sighted_judge(spec, seen):
    """A judge of the words over the signals of a sight and the outputs that do not hide trouble."""
    unseen = [name for name in spec.inputs if name not in seen]
    if not unseen:
        return spec_judge(spec)
    conditions = Conditions(list(seen) + list(spec.outputs))
    found = [unseen_trouble(conditions, properties, unseen) for properties in troubles(spec)]
    return without_trouble(conditions, found)


def unseen_trouble(conditions, properties, unseen):
    """The judge of the words for which unseen signals have values with which all properties are true."""
    parts = [part for prop in properties for part in parts_of(prop)]
    open_parts = [part for part in parts if not used_names(part, unseen)]
    judges = [conditions.of_property(part) for part in [TRUE] + open_parts]
    for group, used in linked_groups([part for part in parts if used_names(part, unseen)], unseen):
        judges.append(judge_of(common_automaton(group, conditions.names, used), None))
    return conditions.all_of(judges)
