import itertools
import random
import unittest

from oracles import ONE, TWO, SlowTruth, random_formula, random_lasso
from promiseplay.comparison import equivalent
from promiseplay.formulas import temporal_count
from promiseplay.parsing import parse_property
from promiseplay.printing import format_property
from promiseplay.simpler import is_simple, simplified
from promiseplay.translation import translate
from promiseplay.truth import truth_word

T, F, A, B = ("true",), ("false",), ("signal", "a"), ("signal", "b")


def parts(formula):
    found = [formula]
    if formula[0] != "signal":
        for part in formula[1:]:
            found.extend(parts(part))
    return found


def slow_simple(formula):
    """Whether a formula is simple, by the very words of the document."""
    for part in parts(formula):
        if part[0] in ("true", "false", "signal") or part in (("previous", T), ("weak_previous", F)):
            continue
        operator, operands = part[0], part[1:]
        if T in operands or F in operands:
            return False
        if operator == "not" and operands[0][0] == "not":
            return False
        if operator in ("and", "or") and (("not", operands[0]) == operands[1] or ("not", operands[1]) == operands[0]):
            return False
        if operator in ("and", "or", "implies", "iff", "until", "weak_until", "release", "since", "trigger") and operands[0] == operands[1]:
            return False
        if operator in ("eventually", "always", "once", "historically") and operands[0][0] == operator:
            return False
        if operator in ("eventually", "always"):
            other = "always" if operator == "eventually" else "eventually"
            if operands[0][0] == other and operands[0][1][0] == operator:
                return False
    return True


def wild(chance, depth):
    """A formula with many constants and repetitions."""
    if depth <= 1 or chance.random() < 0.15:
        return chance.choice([T, F, A, A, B])
    operator = chance.choice(ONE + TWO)
    first = wild(chance, depth - 1)
    if operator in ONE:
        return (operator, first)
    second = chance.choice([first, ("not", first), wild(chance, depth - 1), wild(chance, depth - 1)])
    return (operator, first, second)


class Simple(unittest.TestCase):
    def test_each_form(self):
        for text in ["true", "false", "a", "!a", "Y true", "Z false", "!Y true", "a & b", "a | !b", "a -> !a", "!a <-> a", "G F a", "F G a", "F X F a", "G !G a", "O Y O a", "O H O a", "H O H a",
                     "F H F a", "G O G a", "F G X F a", "a U !a", "a W b", "!a R a", "a S !a", "a T b", "(a & b) & (b & a)", "X X a", "Y Y a", "Z Z a", "!X !a", "Y true & a", "Z false -> a", "F O F a"]:
            formula = parse_property(text, ["a", "b"])
            self.assertIs(is_simple(formula), True, text)
            self.assertTrue(slow_simple(formula))
        for text in ["!true", "!false", "!!a", "a & true", "true & a", "a & false", "false & a", "a | true", "true | a", "a | false", "false | a", "a -> true", "true -> a", "a -> false", "false -> a",
                     "a <-> true", "true <-> a", "a <-> false", "false <-> a", "X true", "X false", "F true", "F false", "G true", "G false", "Y false", "Z true", "O true", "O false", "H true", "H false",
                     "a U true", "true U a", "a U false", "false U a", "a W true", "true W a", "a W false", "false W a", "a R true", "true R a", "a R false", "false R a", "a S true", "true S a",
                     "a S false", "false S a", "a T true", "true T a", "a T false", "false T a", "a & a", "a | a", "a & !a", "!a & a", "a | !a", "!a | a", "X a & X a", "!(a & b) | (a & b)", "a -> a", "a <-> a",
                     "X a -> X a", "F F a", "G G a", "O O a", "H H a", "F G F a", "G F G a", "a U a", "a W a", "a R a", "a S a", "a T a", "X !!a", "a & X (b & true)", "G(Y true & Y false)", "a U (b S b)"]:
            formula = parse_property(text, ["a", "b"])
            self.assertIs(is_simple(formula), False, text)
            self.assertFalse(slow_simple(formula))

    def test_drawn_formulas(self):
        chance = random.Random(1)
        told = {True: 0, False: 0}
        for _ in range(2000):
            formula = wild(chance, chance.randint(1, 3)) if chance.random() < 0.6 else random_formula(chance, ["a", "b"], 3, 1, 4)
            wanted = slow_simple(formula)
            self.assertIs(is_simple(formula), wanted)
            told[wanted] += 1
        self.assertGreater(min(told.values()), 300)


class Simplified(unittest.TestCase):
    def check(self, formula, chance, rounds=4):
        found = simplified(formula)
        self.assertTrue(slow_simple(found), format_property(formula))
        self.assertLessEqual(len(parts(found)), len(parts(formula)))
        self.assertLessEqual(temporal_count(found), temporal_count(formula))
        for _ in range(rounds):
            word = random_lasso(chance, 4)
            truth = SlowTruth(["a", "b"], word, 9)
            for turn in range(14):
                self.assertIs(truth.at(found, turn), truth.at(formula, turn), format_property(formula))
            self.assertEqual(truth_word(found, ["a", "b"], word), truth_word(formula, ["a", "b"], word))
        self.assertEqual(simplified(formula), found)
        self.assertEqual(simplified(found), found)
        return found

    def test_all_operators_over_few_operands(self):
        chance = random.Random(2)
        few = [T, F, A, B, ("not", A), ("not", B), ("previous", T), ("weak_previous", F), ("always", A), ("eventually", A), ("eventually", ("always", A)),
               ("always", ("eventually", A)), ("once", A), ("historically", A)]
        for operator in ONE:
            for first in few:
                self.check((operator, first), chance, 2)
        for operator in TWO:
            for first, second in itertools.product(few[:9], repeat=2):
                self.check((operator, first, second), chance, 2)

    def test_drawn_formulas(self):
        chance = random.Random(3)
        for _ in range(700):
            formula = wild(chance, chance.randint(2, 5))
            if temporal_count(formula) <= 8:
                self.check(formula, chance)

    def test_known_answers(self):
        chance = random.Random(4)
        for text, wanted in [("!!!!a", "a"), ("!(a & !a)", "true"), ("true U true U a", "Fa"), ("G(G(a & (b | !b)))", "Ga"), ("(a -> false) -> false", "a"), ("X(a <-> a) & b", "b"), ("a W false", "Ga"),
                             ("F(true & G F a)", "GFa"), ("false R (F(G a | false))", "FGa"), ("a U (b | !b)", "true"), ("true S a", "Oa"), ("Y(a & !a) | Y true", "Ytrue"), ("!(Z false & true)", "!Zfalse"), ("false T a", "Ha")]:
            found = self.check(parse_property(text, ["a", "b"]), chance)
            self.assertEqual(format_property(found), wanted)

    def test_by_automata(self):
        chance = random.Random(5)
        for _ in range(60):
            formula = wild(chance, 4)
            if temporal_count(formula) <= 3:
                self.assertIsNone(equivalent(translate(formula, ["a", "b"]), translate(simplified(formula), ["a", "b"])))

    def test_hidden_names(self):
        for text, wanted in [("exists h: G(h & true)", "exists h: Gh"), ("exists h, i, j: G(j | h)", "exists h, j: G(j | h)"), ("forall h: a & (h | !h)", "a"), ("forall h, i: F(i & !h) & (i -> i)", "forall h, i: F(i & !h)"),
                             ("exists h: a", "a"), ("forall i, h: h U (a | true)", "true"), ("exists h, i: !!i", "exists i: i")]:
            prop = parse_property(text, ["a", "b"])
            found = simplified(prop)
            self.assertEqual(format_property(found), wanted)
            self.assertIsNone(equivalent(translate(prop, ["a", "b"]), translate(found, ["a", "b"])))
        chance = random.Random(6)
        for _ in range(40):
            formula = random_formula(chance, ["a", "h", "i"], 2, 1, 4)
            prop = (chance.choice(["exists", "forall"]), ("h", "i"), formula)
            self.assertIsNone(equivalent(translate(prop, ["a", "b"]), translate(simplified(prop), ["a", "b"])))

    def test_deep_formulas(self):
        formula = A
        for k in range(99):
            formula = ("not", formula) if k % 2 else ("and", formula, T)
        self.assertEqual(simplified(formula), ("not", A) if 49 % 2 else A)
        for operator in ("next", "previous"):
            formula = A
            for _ in range(90):
                formula = (operator, formula)
            self.assertEqual(simplified(formula), formula)


if __name__ == "__main__":
    unittest.main()
