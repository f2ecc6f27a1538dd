"""The truth of formulas and properties on words without end."""

from promiseplay.errors import InvalidTurn
from promiseplay.formulas import PAST, formula_of, hidden_of, nesting
from promiseplay.hiding import some_values_hold
from promiseplay.words import check_letters, letter_at, normal_lasso


def holds(prop, names, lasso, *, turn=0):
    """Whether a property is true at a turn of the word of a lasso."""
    if turn < 0:
        raise InvalidTurn("the turn is negative")
    check_letters(lasso, 1 << len(names))
    formula = formula_of(prop)
    hidden = hidden_of(prop)
    if prop[0] == "exists":
        return some_values_hold(formula, names, hidden, lasso, turn)
    if prop[0] == "forall":
        return not some_values_hold(("not", formula), names, hidden, lasso, turn)
    return letter_at(truth_word(formula, names, lasso), turn) == 1


def truth_word(formula, names, lasso):
    """The lasso of the word that is 1 at the turns at which a formula is true, and 0 at others."""
    check_letters(lasso, 1 << len(names))
    head, loop = lasso
    # Each operator of the past may need one more loop before its truth repeats.
    rounds = nesting(formula, PAST)
    start = len(head) + rounds * len(loop)
    letters = tuple(head) + tuple(loop) * (rounds + 1)
    numbers = {name: number for number, name in enumerate(names)}
    word = [1 if truth else 0 for truth in truth_at_turns(formula, numbers, letters, start)]
    return normal_lasso(word[:start], word[start:])


def truth_at_turns(formula, numbers, letters, start):
    """The truth of a formula at each turn of letters, behind which the turn start follows again."""
    operator = formula[0]
    if operator in ("true", "false"):
        return [operator == "true" for _ in letters]
    if operator == "signal":
        number = numbers[formula[1]]
        return [(letter >> number) & 1 == 1 for letter in letters]
    first = truth_at_turns(formula[1], numbers, letters, start)
    if len(formula) == 2:
        return truth_of_one(operator, first, start)
    second = truth_at_turns(formula[2], numbers, letters, start)
    return truth_of_two(operator, first, second, start)


def truth_of_one(operator, part, start):
    """The truth of an operator with one operand."""
    if operator == "not":
        return [not truth for truth in part]
    if operator == "next":
        return part[1:] + [part[start]]
    if operator == "previous":
        return [False] + part[:-1]
    if operator == "weak_previous":
        return [True] + part[:-1]
    if operator == "eventually":
        return lasting([True] * len(part), part, start, False)
    if operator == "always":
        return lasting_both([False] * len(part), part, start)
    if operator == "once":
        return lasted([True] * len(part), part)
    return lasted_both([False] * len(part), part)


def truth_of_two(operator, first, second, start):
    """The truth of an operator with two operands."""
    if operator == "until":
        return lasting(first, second, start, False)
    if operator == "weak_until":
        return lasting(first, second, start, True)
    if operator == "release":
        return lasting_both(first, second, start)
    if operator == "since":
        return lasted(first, second)
    if operator == "trigger":
        return lasted_both(first, second)
    if operator == "and":
        return [one and other for one, other in zip(first, second)]
    if operator == "or":
        return [one or other for one, other in zip(first, second)]
    if operator == "implies":
        return [not one or other for one, other in zip(first, second)]
    return [one == other for one, other in zip(first, second)]


def lasting(first, second, start, endless):
    """The truth of until, or of weak_until if it may go on without end."""
    word = [False] * len(first)
    later = endless
    # The first round finds the truth at the turn start, which the second one needs.
    for _ in range(2):
        for turn in reversed(range(len(first))):
            later = second[turn] or first[turn] and later
            word[turn] = later
        later = word[start]
    return word


def lasting_both(first, second, start):
    """The truth of release."""
    word = [False] * len(first)
    later = True
    for _ in range(2):
        for turn in reversed(range(len(first))):
            later = second[turn] and (first[turn] or later)
            word[turn] = later
        later = word[start]
    return word


def lasted(first, second):
    """The truth of since."""
    word = []
    earlier = False
    for turn in range(len(first)):
        earlier = second[turn] or first[turn] and earlier
        word.append(earlier)
    return word


def lasted_both(first, second):
    """The truth of trigger."""
    word = []
    earlier = True
    for turn in range(len(first)):
        earlier = second[turn] and (first[turn] or earlier)
        word.append(earlier)
    return word
