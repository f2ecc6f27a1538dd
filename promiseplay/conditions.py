"""Judges of formulas, properties and specifications.

A formula is taken apart at its operators without time, and so are "always" over "and"
and the like, because small automata put together are often far smaller than what
comes of making the automaton of the whole formula deterministic.
"""

from promiseplay.formulas import TRUE, formula_of, hidden_of, normal_form, signal_names, temporal_count
from promiseplay.judges import is_weak, judge_of, opposite_judge
from promiseplay.printing import format_property
from promiseplay.products import combined
from promiseplay.tableau import formula_automaton

# How many trees are tried at first when it is not known whether a formula or its
# negation is easier to make deterministic, and how much more each time after that.
FIRST_LIMIT = 100
GROWTH = 4

# The verdicts with which two judges are to say the same.
ALIKE = (True, False, True)


def opposite_of(formula):
    """The negation of a formula."""
    return formula[1] if formula[0] == "not" else ("not", formula)


def conjuncts(formula):
    """Formulas all of which are true exactly where a formula is."""
    operator = formula[0]
    if operator == "and":
        return conjuncts(formula[1]) + conjuncts(formula[2])
    if operator == "not":
        inner = formula[1]
        if inner[0] == "not":
            return conjuncts(inner[1])
        if inner[0] == "or":
            return conjuncts(opposite_of(inner[1])) + conjuncts(opposite_of(inner[2]))
        if inner[0] == "implies":
            return conjuncts(inner[1]) + conjuncts(opposite_of(inner[2]))
    return [formula]


def taken_apart(formula):
    """Formulas, more than one, all of which are true exactly where a formula is; or the formula alone."""
    parts = conjuncts(formula)
    if len(parts) > 1:
        return parts
    formula = parts[0]
    if formula[0] == "always":
        return [("always", part) for part in merged_plain(conjuncts(formula[1]))]
    if formula[0] == "not" and formula[1][0] == "eventually":
        return [("always", part) for part in merged_plain(conjuncts(opposite_of(formula[1][1])))]
    return parts


def merged_plain(formulas):
    """The formulas with all those without temporal operators made one, which stands first."""
    plain = [formula for formula in formulas if temporal_count(formula) == 0]
    timed = [formula for formula in formulas if temporal_count(formula) > 0]
    if len(plain) < 2:
        return plain + timed
    whole = plain[0]
    for formula in plain[1:]:
        whole = ("and", whole, formula)
    return [whole] + timed


class Conditions:
    """Makes settled judges over some signals; equal formulas are made into one only once."""

    def __init__(self, names):
        self.names = names
        self.known = {}

    def of_property(self, prop):
        """The judge of a property."""
        formula = formula_of(prop)
        used = {name: True for name in signal_names(formula)}
        hidden = [name for name in hidden_of(prop) if name in used]
        if not hidden:
            return self.of_formula(formula)
        if prop[0] == "exists":
            return judge_of(formula_automaton(formula, self.names, hidden), None)
        return opposite_judge(judge_of(formula_automaton(("not", formula), self.names, hidden), None))

    def of_formula(self, formula):
        """The judge of a formula."""
        place = format_property(normal_form(formula))
        if place not in self.known:
            self.known[place] = self.find_judge(formula)
        return self.known[place]

    def find_judge(self, formula):
        """The judge of a formula that was not met before."""
        if temporal_count(formula) > 0:
            parts = taken_apart(formula)
            if len(parts) > 1:
                return self.all_of([self.of_formula(part) for part in merged_plain(parts)])
            parts = taken_apart(("not", formula))
            if len(parts) > 1:
                found = self.all_of([self.of_formula(part) for part in merged_plain(parts)])
                return opposite_judge(found)
            if formula[0] == "not":
                return opposite_judge(self.of_formula(formula[1]))
            if formula[0] == "iff":
                return combined([self.of_formula(formula[1]), self.of_formula(formula[2])], ALIKE)
            if formula[0] == "next" and temporal_count(formula[1]) > 0:
                pushed = inward(formula[1])
                if pushed != formula:
                    return self.of_formula(pushed)
        return self.whole(formula)

    def all_of(self, judges):
        """The judge of the words that all of some judges accept."""
        # Weak judges are put together one by one, which keeps them small. The others would
        # lose by that what makes few states enough for all of them together.
        waiting = [judge for judge in judges if is_weak(judge)]
        others = [judge for judge in judges if not is_weak(judge)]
        while len(waiting) > 1:
            sizes = sorted([(len(judge.rows), k) for k, judge in enumerate(waiting)])
            chosen = (sizes[0][1], sizes[1][1])
            joined = combined([waiting[chosen[0]], waiting[chosen[1]]], (True, False, False))
            waiting = [judge for k, judge in enumerate(waiting) if k not in chosen] + [joined]
        waiting.extend(others)
        if len(waiting) == 1:
            return waiting[0]
        return combined(waiting, (True,) + (False,) * len(waiting))

    def whole(self, formula):
        """The judge of a formula that is not taken apart: made of it or of its negation."""
        plain = formula_automaton(formula, self.names, [])
        negated = formula_automaton(("not", formula), self.names, [])
        limit = FIRST_LIMIT
        while True:
            first = judge_of(plain, limit)
            second = judge_of(negated, limit)
            if second is not None and (first is None or len(second.rows) < len(first.rows)):
                return opposite_judge(second)
            if first is not None:
                return first
            limit *= GROWTH


def inward(formula):
    """The formula with "next" over it, which is moved to the operands of an operator without time."""
    if formula[0] in ("not", "and", "or", "implies", "iff"):
        return (formula[0],) + tuple([("next", part) for part in formula[1:]])
    return ("next", formula)


def spec_judge(spec):
    """A settled judge of exactly the words that satisfy a specification."""
    conditions = Conditions(spec.signals)
    promised = conditions.all_of([conditions.of_property(prop) for prop in (TRUE,) + spec.guarantees])
    broken = [opposite_judge(promised)]
    broken = conditions.all_of(broken + [conditions.of_property(prop) for prop in spec.assumptions])
    return broken if spec.negated else opposite_judge(broken)
