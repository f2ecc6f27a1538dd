"""Specifications."""

from promiseplay.errors import InvalidSpec
from promiseplay.machines import LEADS
from promiseplay.outcomes import outcome_automaton
from promiseplay.signals import is_name
from promiseplay.truth import holds
from promiseplay.words import check_letters

MOST_SIGNALS = 3


class Spec:
    """A specification."""

    def __init__(self, inputs, outputs, lead, assumptions, guarantees, *, negated=False):
        if len(inputs) > MOST_SIGNALS or len(outputs) > MOST_SIGNALS or lead not in LEADS:
            raise InvalidSpec("there are too many signals, or the lead is wrong")
        known = {}
        for name in list(inputs) + list(outputs):
            if not is_name(name) or name in known:
                raise InvalidSpec("a name is no name of a signal, or is taken already")
            known[name] = True
        self.inputs = tuple(inputs)
        self.outputs = tuple(outputs)
        self.lead = lead
        self.assumptions = tuple(assumptions)
        self.guarantees = tuple(guarantees)
        self.negated = negated

    @property
    def signals(self):
        """The tuple of the signals: the inputs, then the outputs."""
        return self.inputs + self.outputs


def satisfies(spec, lasso):
    """Whether the word of a lasso satisfies a specification."""
    names = spec.signals
    check_letters(lasso, 1 << len(names))
    assumed = all([holds(prop, names, lasso) for prop in spec.assumptions])
    kept = not assumed or all([holds(prop, names, lasso) for prop in spec.guarantees])
    return kept != spec.negated


def dual(spec):
    """The dual specification."""
    return Spec(spec.outputs, spec.inputs, -1 - spec.lead, spec.assumptions, spec.guarantees, negated=not spec.negated)


def spec_automaton(spec):
    """A Buchi automaton of exactly the words that satisfy a specification."""
    return outcome_automaton(spec.assumptions, spec.guarantees, spec.signals, not spec.negated)
