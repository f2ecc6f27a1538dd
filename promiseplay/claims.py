"""Claims: the formulas in negation normal form that a run of an automaton can claim to be true.

Equal formulas get one number, so that sets of claims can be kept as the binary
digits of integers. Some formulas with constants and repetitions are made smaller.
"""

FUTURE = ("next", "until", "release")
PAST = ("previous", "weak_previous", "since", "trigger")
# The operators of the past that hold when there is no earlier turn.
HOLD_AT_FIRST = ("weak_previous", "trigger")

TRUE = 0
FALSE = 1


class Claims:
    """A table of claims: the operator and the operands of each number.

    A literal has the number of its signal and 1 or 0 as its operands. `future`,
    `plain` and `below` tell of each claim whether it has an operator of the future,
    whether it has no temporal operator, and which operators of the past it has, as
    digits in the order of the list `past`.
    """

    def __init__(self, signals):
        self.signal_numbers = {name: number for number, name in enumerate(signals)}
        self.operators = []
        self.lefts = []
        self.rights = []
        self.numbers = {}
        self.future = []
        self.plain = []
        self.below = []
        self.past = []
        self.past_digits = {}
        self.add_node("true", 0, 0)
        self.add_node("false", 0, 0)

    def add_node(self, operator, left, right):
        """The number of the claim with these operands, as it is."""
        place = (operator, left, right)
        if place in self.numbers:
            return self.numbers[place]
        number = len(self.operators)
        self.numbers[place] = number
        self.operators.append(operator)
        self.lefts.append(left)
        self.rights.append(right)
        operands = [] if operator in ("true", "false", "literal") else [left, right]
        self.future.append(operator in FUTURE or any([self.future[part] for part in operands]))
        temporal = operator in FUTURE or operator in PAST
        self.plain.append(not temporal and all([self.plain[part] for part in operands]))
        below = 0
        for part in operands:
            below |= self.below[part]
        if operator in PAST:
            self.past_digits[number] = len(self.past)
            below |= 1 << len(self.past)
            self.past.append(number)
        self.below.append(below)
        return number

    def enter(self, formula):
        """The number of a formula in negation normal form."""
        operator = formula[0]
        if operator == "true":
            return TRUE
        if operator == "false":
            return FALSE
        if operator == "signal":
            return self.add_node("literal", self.signal_numbers[formula[1]], 1)
        if operator == "not":
            return self.add_node("literal", self.signal_numbers[formula[1][1]], 0)
        left = self.enter(formula[1])
        if operator in ("next", "previous", "weak_previous"):
            return self.step_node(operator, left)
        right = self.enter(formula[2])
        if operator in ("and", "or"):
            return self.joined(operator, left, right)
        return self.lasting_node(operator, left, right)

    def step_node(self, operator, part):
        """The claim of next, previous or weak_previous."""
        if part == TRUE and operator != "previous" or part == FALSE and operator != "weak_previous":
            return part
        return self.add_node(operator, part, part)

    def joined(self, operator, left, right):
        """The claim of and, or."""
        neutral, strong = (TRUE, FALSE) if operator == "and" else (FALSE, TRUE)
        if left == strong or right == strong:
            return strong
        if left == neutral or left == right:
            return right
        if right == neutral:
            return left
        return self.add_node(operator, min(left, right), max(left, right))

    def lasting_node(self, operator, left, right):
        """The claim of until, release, since or trigger."""
        # until and since fall back on their second operand if the first one is
        # false, release and trigger if it is true.
        idle = FALSE if operator in ("until", "since") else TRUE
        if right in (TRUE, FALSE) or left == idle or left == right:
            return right
        if self.operators[right] == operator and self.lefts[right] == left:
            return right
        return self.add_node(operator, left, right)

    def alternatives(self, number):
        """The list of the claims one of which must be true where a claim is."""
        if self.operators[number] != "or" or self.plain[number]:
            return [number]
        return self.alternatives(self.lefts[number]) + self.alternatives(self.rights[number])

    def first_assets(self):
        """The operators of the past, as digits, that hold ahead of the first turn."""
        digits = 0
        for digit, number in enumerate(self.past):
            if self.operators[number] in HOLD_AT_FIRST:
                digits |= 1 << digit
        return digits
