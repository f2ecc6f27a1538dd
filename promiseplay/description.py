"""From Buchi automata to properties."""

from promiseplay.errors import Mismatch, TooLarge
from promiseplay.formulas import FALSE, TRUE
from promiseplay.operations import trim

MOST_STATES = 4


def describe(automaton, names):
    """An "exists" property that is true at turn 0 of exactly the words that the automaton accepts.

    The hidden signals are the binary digits of the state of a run.
    """
    if automaton.letters != 1 << len(names):
        raise Mismatch("the letters are not those of the signals")
    if len(automaton.rows) > MOST_STATES:
        raise TooLarge("the automaton has too many states")
    automaton = trim(automaton)
    hidden = new_names(names, 1 if len(automaton.rows) <= 2 else 2)
    states = range(1 << len(hidden))
    start = decision(hidden, [state in automaton.initial for state in states])
    accepting = decision(hidden, [state in automaton.accepting for state in states])
    parts = [start, always_moving(automaton, names, hidden), over(("always",), over(("eventually",), accepting))]
    return ("exists", tuple(hidden), conjunction(parts))


def new_names(names, count):
    """As many different names as are asked for, none of which is in a list."""
    found = []
    number = 0
    while len(found) < count:
        if f"h{number}" not in names:
            found.append(f"h{number}")
        number += 1
    return found


def always_moving(automaton, names, hidden):
    """The formula that says that each state has the next one as its successor.

    It says for each state that, where it is next, the present state and letter lead to
    it. So it needs only one "next" for each state.
    """
    parts = []
    for target in range(1 << len(hidden)):
        leading = decision(list(names) + hidden, leads_to(automaton, target, 1 << len(hidden)))
        here = decision(hidden, [state == target for state in range(1 << len(hidden))])
        if leading == FALSE:
            parts.append(("not", ("next", here)))
        elif leading != TRUE:
            parts.append(("implies", ("next", here), leading))
    return over(("always",), conjunction(parts))


def leads_to(automaton, target, numbers):
    """For each number of a state and each letter whether the letter leads from the state to a target."""
    found = []
    for state in range(numbers):
        for letter in range(automaton.letters):
            found.append(state < len(automaton.rows) and target in automaton.rows[state][letter])
    return found


def over(operator, formula):
    """A formula with an operator over it, unless the formula is a constant."""
    return formula if formula in (TRUE, FALSE) else operator + (formula,)


def conjunction(parts):
    """The formula that says that all parts are true."""
    if FALSE in parts:
        return FALSE
    found = TRUE
    for part in parts:
        if found == TRUE:
            found = part
        elif part != TRUE:
            found = ("and", found, part)
    return found


def decision(names, table):
    """A formula over some signals that is true for the letters for which the table says so."""
    if not names:
        return TRUE if table[0] else FALSE
    half = len(table) // 2
    absent = decision(names[:-1], table[:half])
    present = decision(names[:-1], table[half:])
    return choice(("signal", names[-1]), present, absent)


def choice(signal, present, absent):
    """A formula that is one formula where a signal is true, and another one where it is false."""
    if present == absent:
        return present
    if absent == FALSE:
        return signal if present == TRUE else ("and", signal, present)
    if present == FALSE:
        return ("not", signal) if absent == TRUE else ("and", ("not", signal), absent)
    if present == TRUE:
        return ("or", signal, absent)
    if absent == TRUE:
        return ("or", ("not", signal), present)
    return ("or", ("and", signal, present), ("and", ("not", signal), absent))
