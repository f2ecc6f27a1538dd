"""Buchi automata of the words that satisfy assumptions and guarantees, or do not."""

from promiseplay.description import conjunction
from promiseplay.operations import intersection, union
from promiseplay.reduction import smaller
from promiseplay.translation import translate

QUANTIFIERS = {"exists": "forall", "forall": "exists"}


def negation(prop):
    """The property that is true where another one is false."""
    if prop[0] in QUANTIFIERS:
        return (QUANTIFIERS[prop[0]], prop[1], ("not", prop[2]))
    return ("not", prop)


def split_properties(properties):
    """The conjunction of all formulas among some properties, and the list of the quantified ones."""
    formulas = [prop for prop in properties if prop[0] not in QUANTIFIERS]
    return conjunction(formulas), [prop for prop in properties if prop[0] in QUANTIFIERS]


def all_of(first, properties, names):
    """An automaton of the words that an automaton accepts and of which some properties are true."""
    for prop in properties:
        first = smaller(intersection(first, translate(prop, names)))
    return first


def any_of(first, properties, names):
    """An automaton of the words that an automaton accepts or of which one of some properties is true."""
    for prop in properties:
        first = smaller(union(first, translate(prop, names)))
    return first


def outcome_automaton(assumptions, guarantees, names, kept):
    """An automaton of the words over names of which an assumption is false or all guarantees are true.

    With kept False it is one of all other words.
    """
    assumed, more_assumed = split_properties(assumptions)
    promised, more_promised = split_properties(guarantees)
    if kept:
        found = translate(promised if more_promised else ("implies", assumed, promised), names)
        found = all_of(found, more_promised, names)
        if more_promised:
            found = any_of(found, [("not", assumed)], names)
        return any_of(found, [negation(prop) for prop in more_assumed], names)
    if not more_promised:
        return all_of(translate(("and", assumed, ("not", promised)), names), more_assumed, names)
    broken = any_of(translate(("not", promised), names), [negation(prop) for prop in more_promised], names)
    return intersection(all_of(translate(assumed, names), more_assumed, names), broken)
