"""Printing a property."""

UNARY_SIGNS = {
    "not": "!", "next": "X", "eventually": "F", "always": "G",
    "previous": "Y", "weak_previous": "Z", "once": "O", "historically": "H",
}
BINARY_SIGNS = {
    "and": "&", "or": "|", "implies": "->", "iff": "<->",
    "until": "U", "weak_until": "W", "release": "R", "since": "S", "trigger": "T",
}


def format_property(prop):
    """The printed form of a property."""
    if prop[0] in ("exists", "forall"):
        hidden = ", ".join(prop[1])
        return f"{prop[0]} {hidden}: {format_formula(prop[2])}"
    return format_formula(prop)


def format_formula(formula):
    """The printed form of a formula."""
    operator = formula[0]
    if operator == "signal":
        return formula[1]
    if operator in UNARY_SIGNS:
        return UNARY_SIGNS[operator] + format_formula(formula[1])
    if operator in BINARY_SIGNS:
        first = format_formula(formula[1])
        second = format_formula(formula[2])
        return f"({first} {BINARY_SIGNS[operator]} {second})"
    return operator
