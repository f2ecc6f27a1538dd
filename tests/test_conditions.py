import random
import unittest

from oracles import random_formula, random_lasso, random_spec, slow_holds, slow_satisfies
from promiseplay.conditions import Conditions, spec_judge
from promiseplay.delays import delayed
from promiseplay.judges import is_weak, opposite_judge
from promiseplay.parsing import parse_property
from promiseplay.truth import holds


def judged(judge, lasso):
    """Whether a judge accepts a word: run long enough, then look at one more long stretch."""
    head, loop = lasso
    state = 0
    for letter in list(head) + list(loop) * len(judge.rows):
        state = judge.rows[state][letter]
    most = 0
    for letter in list(loop) * len(judge.rows):
        most = max(most, judge.ranks[state][letter])
        state = judge.rows[state][letter]
    return most % 2 == 0


class Judging(unittest.TestCase):
    def test_formulas(self):
        chance = random.Random(1)
        names = ["a", "b", "c"]
        for _ in range(250):
            formula = random_formula(chance, names, 4, 2, 6)
            judge = Conditions(names).of_formula(formula)
            for _ in range(12):
                lasso = random_lasso(chance, 8)
                self.assertIs(judged(judge, lasso), slow_holds(formula, names, lasso))
                self.assertIs(judged(opposite_judge(judge), lasso), not slow_holds(formula, names, lasso))

    def test_properties_often_true(self):
        chance = random.Random(2)
        names = ["a", "b"]
        for text in ["(G F a -> G F b) & (G F !a -> G F !b)", "(G F a <-> G F b) <-> F G a", "G(F a & F b & F !a & F !b)",
                     "F(G a | G b | G(a <-> X b))", "G(a -> F b) & F G(a -> b)", "X(G F a & (b U a)) | !(F a -> X b)",
                     "exists h: G F(h & a) & G F(!h & b) & G(h -> X !h)", "forall h: F(h & a) | G F(!h & X b)"]:
            prop = parse_property(text, names)
            judge = Conditions(names).of_property(prop)
            for _ in range(60):
                lasso = random_lasso(chance, 4, 3, 6)
                self.assertIs(judged(judge, lasso), holds(prop, names, lasso), (text, lasso))

    def test_specifications(self):
        chance = random.Random(3)
        for _ in range(80):
            spec = random_spec(chance)
            judge = spec_judge(spec)
            for _ in range(10):
                lasso = random_lasso(chance, 1 << len(spec.signals))
                self.assertIs(judged(judge, lasso), slow_satisfies(spec, lasso))

    def test_few_states(self):
        names = ["a", "b", "c", "d", "e", "f"]
        for text, most in [("G(F a & F b & F c & F d & F e & F f)", 6), ("(G F a -> G F b) & (G F c -> G F d)", 2),
                           ("G(a -> F(b & X F(c & X F(d & X F e))))", 20), ("G(F(a & X(b U c)) | F(d & X(e U f)))", 10),
                           ("G F a & F b & (c U d) & G(e -> f)", 12), ("F a <-> (F b <-> F c)", 10)]:
            judge = Conditions(names).of_formula(parse_property(text, names))
            self.assertLessEqual(len(judge.rows), most, text)

    def test_weak_judges(self):
        for text, wanted in [("G a", True), ("F a", True), ("a U b", True), ("G a | F b", True), ("G F a", False),
                             ("G(a -> F b)", False), ("F G a", False)]:
            self.assertIs(is_weak(Conditions(["a", "b"]).of_formula(parse_property(text, ["a", "b"]))), wanted, text)

    def test_delays(self):
        chance = random.Random(4)
        for _ in range(60):
            spec = random_spec(chance)
            p, q = 1 << len(spec.inputs), 1 << len(spec.outputs)
            judge = spec_judge(spec)
            later = delayed(judge, p)
            for _ in range(10):
                heard, emitted = random_lasso(chance, p, 3, 3), random_lasso(chance, q, 3, 3)
                count = 40

                def letter(lasso, turn):
                    head, loop = lasso
                    return head[turn] if turn < len(head) else loop[(turn - len(head)) % len(loop)]

                def word(shift):
                    letters = [letter(heard, n) + p * letter(emitted, n + shift) for n in range(count)]
                    return tuple(letters[:6]), tuple(letters[6:18])

                self.assertIs(judged(later, word(0)), judged(judge, word(1)))
