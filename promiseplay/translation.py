"""From properties to Buchi automata."""

from promiseplay.comparison import complement
from promiseplay.formulas import formula_of, hidden_of, signal_names
from promiseplay.tableau import formula_automaton


def translate(prop, names):
    """A Buchi automaton of exactly the words of which a property is true at turn 0."""
    formula = formula_of(prop)
    used = {name: True for name in signal_names(formula)}
    hidden = [name for name in hidden_of(prop) if name in used]
    if prop[0] == "forall" and hidden:
        return complement(formula_automaton(("not", formula), names, hidden))
    return formula_automaton(formula, names, hidden)
