"""Simpler properties that are true at the same turns."""

from promiseplay.formulas import FALSE, TRUE, formula_of, hidden_of, signal_names

CONSTANTS = (("true",), ("false",))

# The only formulas that have an operator over a constant and cannot be written without one.
FIRST_TURN = (("previous", ("true",)), ("weak_previous", ("false",)))

# Operators that say the same when they stand twice, one directly over the other.
REPEATED = ("eventually", "always", "once", "historically")

# What three operators, one over the other, may not be.
SWAYING = (("eventually", "always", "eventually"), ("always", "eventually", "always"))

# Operators with two operands that are true exactly where both are, if these are equal.
MERGING = ("and", "or", "until", "weak_until", "release", "since", "trigger")

# The operator that is left of one with two operands whose first one is a constant.
WITH_FIRST = {
    ("until", "true"): "eventually", ("release", "false"): "always",
    ("since", "true"): "once", ("trigger", "false"): "historically",
}


def is_simple(formula):
    """Whether a formula is simple."""
    waiting = [formula]
    while waiting:
        part = waiting.pop()
        if part[0] in ("true", "false", "signal") or part in FIRST_TURN:
            continue
        if smaller(part) is not None:
            return False
        waiting.extend(part[1:])
    return True


def simplified(prop):
    """A property that is true at the same turns, whose formula is simple."""
    formula = simple_formula(formula_of(prop))
    used = signal_names(formula)
    hidden = tuple([name for name in hidden_of(prop) if name in used])
    return (prop[0], hidden, formula) if hidden else formula


def simple_formula(formula):
    """A simple formula that is true at the same turns."""
    if formula[0] in ("true", "false", "signal"):
        return formula
    return made((formula[0],) + tuple([simple_formula(part) for part in formula[1:]]))


def made(formula):
    """A simple formula that is true at the same turns as a formula with simple operands."""
    # What is smaller may be an operator over an operand, which needs another look.
    found = smaller(formula)
    while found is not None:
        formula = found
        found = smaller(formula)
    return formula


def smaller(formula):
    """A formula with fewer parts that is true at the same turns; None if a formula is simple at its top."""
    operator = formula[0]
    if operator in ("true", "false", "signal") or formula in FIRST_TURN:
        return None
    if len(formula) == 2:
        return smaller_over_one(operator, formula[1])
    first = formula[1]
    second = formula[2]
    if second in CONSTANTS:
        return with_second(operator, first, second)
    if first in CONSTANTS:
        return with_first(operator, first, second)
    if first == second:
        return first if operator in MERGING else TRUE
    if operator in ("and", "or") and (first == ("not", second) or second == ("not", first)):
        return FALSE if operator == "and" else TRUE
    return None


def smaller_over_one(operator, part):
    """The same for an operator over one operand."""
    if part in CONSTANTS:
        if operator == "not":
            return opposite(part)
        return part
    if operator == "not":
        return part[1] if part[0] == "not" else None
    if operator in REPEATED and part[0] == operator:
        return part
    if part[0] in REPEATED and (operator, part[0], part[1][0]) in SWAYING:
        return part
    return None


def opposite(constant):
    """The other constant."""
    return FALSE if constant == TRUE else TRUE


def with_second(operator, first, constant):
    """The same for an operator over an operand and a constant."""
    if operator == "and":
        return first if constant == TRUE else FALSE
    if operator == "or":
        return TRUE if constant == TRUE else first
    if operator == "implies":
        return TRUE if constant == TRUE else ("not", first)
    if operator == "iff":
        return first if constant == TRUE else ("not", first)
    if operator == "weak_until" and constant == FALSE:
        return ("always", first)
    return constant


def with_first(operator, constant, second):
    """The same for an operator over a constant and an operand."""
    if operator in ("and", "or", "iff"):
        return with_second(operator, second, constant)
    if operator == "implies":
        return second if constant == TRUE else TRUE
    if operator == "weak_until" and constant == TRUE:
        return TRUE
    if (operator, constant[0]) in WITH_FIRST:
        return (WITH_FIRST[(operator, constant[0])], second)
    return second
