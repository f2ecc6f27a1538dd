import random
import unittest

from oracles import random_formula, random_lasso, slow_holds
from promiseplay.formulas import normal_form, signal_names, temporal_count

T, F = ("true",), ("false",)
A, B = ("signal", "a"), ("signal", "b")
NA, NB = ("not", A), ("not", B)

# Each row of the table: a formula, its normal form, and the normal form of its negation.
ROWS = [
    (T, T, F),
    (F, F, T),
    (A, A, NA),
    (("not", A), NA, A),
    (("and", A, B), ("and", A, B), ("or", NA, NB)),
    (("or", A, B), ("or", A, B), ("and", NA, NB)),
    (("implies", A, B), ("or", NA, B), ("and", A, NB)),
    (("iff", A, B), ("or", ("and", A, B), ("and", NA, NB)), ("or", ("and", A, NB), ("and", NA, B))),
    (("next", A), ("next", A), ("next", NA)),
    (("eventually", A), ("until", T, A), ("release", F, NA)),
    (("always", A), ("release", F, A), ("until", T, NA)),
    (("until", A, B), ("until", A, B), ("release", NA, NB)),
    (("weak_until", A, B), ("release", B, ("or", A, B)), ("until", NB, ("and", NA, NB))),
    (("release", A, B), ("release", A, B), ("until", NA, NB)),
    (("previous", A), ("previous", A), ("weak_previous", NA)),
    (("weak_previous", A), ("weak_previous", A), ("previous", NA)),
    (("once", A), ("since", T, A), ("trigger", F, NA)),
    (("historically", A), ("trigger", F, A), ("since", T, NA)),
    (("since", A, B), ("since", A, B), ("trigger", NA, NB)),
    (("trigger", A, B), ("trigger", A, B), ("since", NA, NB)),
]


def replaced(formula, parts):
    """A formula of the table with formulas in the places of its signals and their negations."""
    if formula in parts:
        return parts[formula]
    if formula[0] in ("true", "false"):
        return formula
    return (formula[0],) + tuple(replaced(part, parts) for part in formula[1:])


class NormalForm(unittest.TestCase):
    def test_example(self):
        self.assertEqual(normal_form(("not", ("eventually", A))), ("release", F, NA))

    def test_each_row(self):
        for formula, plain, negated in ROWS:
            self.assertEqual(normal_form(formula), plain)
            self.assertEqual(normal_form(("not", formula)), negated)
            self.assertEqual(normal_form(("not", ("not", formula))), plain)

    def test_rows_within_rows(self):
        for formula, plain, negated in ROWS:
            for inner, inner_plain, inner_negated in ROWS:
                whole = replaced(formula, {A: inner, B: ("next", B)})
                parts = {A: inner_plain, NA: inner_negated, B: ("next", B), NB: ("next", NB)}
                self.assertEqual(normal_form(whole), replaced(plain, parts))
                self.assertEqual(normal_form(("not", whole)), replaced(negated, parts))
                whole = replaced(formula, {A: ("next", A), B: inner})
                parts = {A: ("next", A), NA: ("next", NA), B: inner_plain, NB: inner_negated}
                self.assertEqual(normal_form(whole), replaced(plain, parts))
                self.assertEqual(normal_form(("not", whole)), replaced(negated, parts))

    def test_truth_stays(self):
        chance = random.Random(3)
        for _ in range(300):
            formula = random_formula(chance, ["a", "b"])
            lasso = random_lasso(chance, 4, 3, 3)
            turn = chance.randint(0, 4)
            self.assertEqual(slow_holds(formula, ["a", "b"], lasso, turn),
                             slow_holds(normal_form(formula), ["a", "b"], lasso, turn))

    def test_at_the_bounds(self):
        deep = A
        for _ in range(99):
            deep = ("not", deep)
        self.assertEqual(normal_form(deep), NA)
        nested = A
        for _ in range(6):
            nested = ("iff", nested, B)
        self.assertEqual(normal_form(nested)[0], "or")
        self.assertEqual(temporal_count(normal_form(nested)), 0)


class Counts(unittest.TestCase):
    def test_temporal_count(self):
        temporal = [row[0] for row in ROWS[8:]]
        for formula in temporal:
            self.assertEqual(temporal_count(formula), 1)
            self.assertEqual(temporal_count(("and", formula, ("not", formula))), 2)
        for formula, _, _ in ROWS[:8]:
            self.assertEqual(temporal_count(formula), 0)
        self.assertEqual(temporal_count(("until", ("next", A), ("once", ("next", A)))), 4)

    def test_signal_names(self):
        self.assertEqual(signal_names(T), [])
        names = ["b", "a", "a1", "b", "ab", "z", "a10", "a2"]
        formula = F
        for name in names:
            formula = ("until", ("signal", name), formula)
        self.assertEqual(signal_names(formula), sorted(set(names)))
        self.assertEqual(signal_names(("signal", "signal")), ["signal"])
        self.assertEqual(signal_names(("and", ("signal", "until"), ("signal", "not"))), ["not", "until"])
        self.assertIsNot(signal_names(formula), signal_names(formula))
