"""Formulas: their parts, their counts and their negation normal form."""

TRUE = ("true",)
FALSE = ("false",)

PAST = ("previous", "weak_previous", "once", "historically", "since", "trigger")
TEMPORAL = ("next", "eventually", "always", "until", "weak_until", "release",
            "previous", "weak_previous", "once", "historically", "since", "trigger")

# The operators that double their operands in the negation normal form.
DOUBLING = ("iff", "weak_until")

# The operator that the negation of a formula has over the negations of its operands.
OPPOSITES = {
    "and": "or", "or": "and", "next": "next", "until": "release", "release": "until",
    "previous": "weak_previous", "weak_previous": "previous", "since": "trigger", "trigger": "since",
}

# Operators with one operand that are short for one with two: that operator and its first operand.
SHORT = {
    "eventually": ("until", ("true",)), "always": ("release", ("false",)),
    "once": ("since", ("true",)), "historically": ("trigger", ("false",)),
}


def normal_form(formula):
    """The negation normal form of a formula."""
    return both_forms(formula)[0]


def both_forms(formula):
    """The pair of the negation normal forms of a formula and of its negation."""
    operator = formula[0]
    if operator == "true":
        return TRUE, FALSE
    if operator == "false":
        return FALSE, TRUE
    if operator == "signal":
        return formula, ("not", formula)
    plain, negated = both_forms(formula[1])
    if operator == "not":
        return negated, plain
    if operator in SHORT:
        return short_forms(operator, plain, negated)
    if len(formula) == 2:
        return (operator, plain), (OPPOSITES[operator], negated)
    return pair_forms(operator, plain, negated, both_forms(formula[2]))


def short_forms(operator, plain, negated):
    """Both forms of eventually, always, once and historically."""
    longer, first = SHORT[operator]
    opposite = FALSE if first == TRUE else TRUE
    return (longer, first, plain), (OPPOSITES[longer], opposite, negated)


def pair_forms(operator, plain, negated, second):
    """Both forms of a formula with two operands; plain and negated are those of the first operand."""
    other, other_negated = second
    if operator == "implies":
        return ("or", negated, other), ("and", plain, other_negated)
    if operator == "iff":
        alike = ("or", ("and", plain, other), ("and", negated, other_negated))
        return alike, ("or", ("and", plain, other_negated), ("and", negated, other))
    if operator == "weak_until":
        holding = ("release", other, ("or", plain, other))
        return holding, ("until", other_negated, ("and", negated, other_negated))
    return (operator, plain, other), (OPPOSITES[operator], negated, other_negated)


def all_parts(formula):
    """The list of the formula and all formulas within it, each occurrence counted."""
    found = []
    waiting = [formula]
    while waiting:
        part = waiting.pop()
        found.append(part)
        if part[0] != "signal":
            waiting.extend(part[1:])
    return found


def operator_count(formula, operators):
    """The number of occurrences of some operators in a formula."""
    return len([part for part in all_parts(formula) if part[0] in operators])


def temporal_count(formula):
    """The number of temporal operators in a formula, each occurrence counted."""
    return operator_count(formula, TEMPORAL)


def signal_names(formula):
    """The ascending list of the names of all signals in a formula."""
    names = {}
    for part in all_parts(formula):
        if part[0] == "signal":
            names[part[1]] = True
    return sorted(list(names))


def depth(formula):
    """The depth of a formula."""
    return nesting(formula, None)


def nesting(formula, operators):
    """The greatest number of parts one within another that have some operators, or all if None."""
    greatest = 0
    waiting = [(formula, 0)]
    while waiting:
        part, level = waiting.pop()
        if operators is None or part[0] in operators:
            level += 1
        greatest = max(greatest, level)
        if part[0] != "signal":
            waiting.extend([(operand, level) for operand in part[1:]])
    return greatest


def formula_of(prop):
    """The formula of a property."""
    return prop[2] if prop[0] in ("exists", "forall") else prop


def hidden_of(prop):
    """The tuple of the hidden names of a property; a formula has none."""
    return prop[1] if prop[0] in ("exists", "forall") else ()
