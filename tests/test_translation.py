import random
import unittest

from oracles import ONE, TWO, random_formula, random_lasso, slow_accepts, slow_holds
from promiseplay.buchi import Automaton
from promiseplay.comparison import equivalent
from promiseplay.formulas import normal_form
from promiseplay.parsing import parse_property
from promiseplay.translation import translate
from promiseplay.truth import holds

A, B = ("signal", "a"), ("signal", "b")


def slow(automaton, lasso):
    return slow_accepts(automaton.rows, automaton.initial, automaton.accepting, lasso)


class Formulas(unittest.TestCase):
    def check(self, formula, names, chance, words=8):
        automaton = translate(formula, names)
        self.assertIsInstance(automaton, Automaton)
        self.assertEqual(automaton.letters, 1 << len(names))
        for _ in range(words):
            lasso = random_lasso(chance, 1 << len(names))
            self.assertEqual(slow(automaton, lasso), slow_holds(formula, names, lasso), (formula, lasso))

    def test_each_operator_in_each(self):
        chance = random.Random(31)
        inner = [(operator, B) for operator in ONE] + [(operator, A, B) for operator in TWO]
        for part in inner + [A, ("true",), ("false",)]:
            self.check(part, ["a", "b"], chance)
            for operator in ONE:
                self.check((operator, part), ["a", "b"], chance)
            for operator in TWO:
                self.check((operator, part, B), ["a", "b"], chance)
                self.check((operator, A, part), ["a", "b"], chance)

    def test_random_formulas(self):
        chance = random.Random(32)
        for _ in range(300):
            names = ["a", "b", "c"][:chance.randint(0, 3)]
            self.check(random_formula(chance, names, 5, 2, 6), names, chance)

    def test_at_the_bounds(self):
        chance = random.Random(33)
        for _ in range(60):
            names = list("abcdef")[:chance.randint(4, 6)]
            self.check(random_formula(chance, names, 8, 6, 8), names, chance)
        deep = A
        for k in range(99):
            deep = ("not", deep) if k % 12 else ("next", deep)
        self.check(deep, ["a"], chance)

    def test_no_signals(self):
        chance = random.Random(34)
        for text in ("true", "false", "G true", "Y true", "X Y true", "F Z false", "G Z false", "G F O Z false"):
            self.check(parse_property(text, []), [], chance, 3)

    def test_equal_properties(self):
        for first, second in [
                ("G F a", "!F G !a"), ("a W b", "(a U b) | G a"), ("a R b", "!(!a U !b)"), ("F a", "true U a"),
                ("a U b", "b | a & X(a U b)"), ("G(a -> F b)", "G(!a | F b)"), ("F(b & H a)", "a U (a & b)"),
                ("F(b & Y H a)", "a & X(a U b) | a & X b"), ("O a", "a"), ("Y a", "false"), ("Z a", "true"),
                ("X Y a", "a"), ("G(b -> O a)", "!b W a"), ("G(X a -> b)", "G(a -> Z b)"),
                ("exists h: G F h & G(h -> a)", "G F a"), ("exists h: h U a", "F a"),
                ("forall h: h U a", "a"), ("forall h: F(h <-> a)", "false"), ("exists h: G(h <-> X a)", "true"),
                ("forall h: G(h -> X!h) -> F a", "F a"), ("forall h, k: G F(h -> h | k)", "true")]:
            one, other = translate(parse_property(first, ["a", "b"]), ["a", "b"]), translate(
                parse_property(second, ["a", "b"]), ["a", "b"])
            self.assertIsNone(equivalent(one, other), (first, second))

    def test_normal_forms(self):
        chance = random.Random(35)
        for _ in range(60):
            formula = random_formula(chance, ["a", "b"], 4, 2, 5)
            self.assertIsNone(equivalent(translate(formula, ["a", "b"]), translate(normal_form(formula), ["a", "b"])))

    def test_names_stay(self):
        names = ["a", "b"]
        translate(("exists", ("h",), ("until", A, ("signal", "h"))), names)
        self.assertEqual(names, ["a", "b"])


class Quantified(unittest.TestCase):
    def test_random_properties(self):
        chance = random.Random(36)
        for _ in range(250):
            names = ["a", "b"][:chance.randint(0, 2)]
            hidden = tuple(["h", "k", "m"][:chance.randint(1, 3)])
            prop = (chance.choice(["exists", "forall"]), hidden,
                    random_formula(chance, names + list(hidden), 4, 2, 5))
            automaton = translate(prop, names)
            self.assertEqual(automaton.letters, 1 << len(names))
            for _ in range(8):
                lasso = random_lasso(chance, 1 << len(names))
                self.assertEqual(slow(automaton, lasso), holds(prop, names, lasso), (prop, lasso))

    def test_what_no_formula_says(self):
        even = translate(parse_property("exists h: h & G(h <-> !Xh) & G(h -> a)", ["a"]), ["a"])
        odd = translate(parse_property("forall h: h & G(h <-> !Xh) -> G(!h -> a)", ["a"]), ["a"])
        for length in range(1, 7):
            for number in range(1 << length):
                loop = tuple(number >> k & 1 for k in range(length))
                letters = loop * 2
                self.assertEqual(slow(even, ((), loop)), all(letters[0::2]))
                self.assertEqual(slow(odd, ((), loop)), all(letters[1::2]))

    def test_hidden_names_that_do_not_occur(self):
        for word in ("exists", "forall"):
            automaton = translate((word, ("h", "k"), ("eventually", A)), ["a"])
            self.assertTrue(slow(automaton, ((0, 1), (0,))))
            self.assertFalse(slow(automaton, ((), (0,))))
