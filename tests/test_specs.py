import random
import unittest

from oracles import exchanged, random_lasso, random_spec, slow_satisfies
from promiseplay.buchi import accepts
from promiseplay.errors import InvalidLetter, InvalidSpec
from promiseplay.parsing import parse_property
from promiseplay.specs import Spec, dual, satisfies, spec_automaton

ALWAYS = ("always", ("signal", "g"))
OFTEN = ("always", ("eventually", ("signal", "r")))


def spec_of(inputs, outputs, assumptions, guarantees, lead=0, negated=False):
    names = inputs + outputs
    return Spec(inputs, outputs, lead, [parse_property(text, names) for text in assumptions],
                [parse_property(text, names) for text in guarantees], negated=negated)


def parts(spec):
    return spec.inputs, spec.outputs, spec.lead, spec.assumptions, spec.guarantees, spec.negated


class Construction(unittest.TestCase):
    def test_attributes(self):
        lists = ["r"], ["g", "h2"], [OFTEN], [ALWAYS]
        spec = Spec(lists[0], lists[1], -2, lists[2], lists[3], negated=True)
        for given in lists:
            given.append("x")
        self.assertEqual(parts(spec), (("r",), ("g", "h2"), -2, (OFTEN,), (ALWAYS,), True))
        self.assertEqual({type(value) for value in (spec.inputs, spec.outputs, spec.assumptions, spec.guarantees)}, {tuple})
        self.assertEqual(spec.signals, ("r", "g", "h2"))

    def test_tuples_and_negated_left_out(self):
        spec = Spec(("r",), ("g",), 2, (OFTEN,), (ALWAYS,))
        self.assertEqual(parts(spec), (("r",), ("g",), 2, (OFTEN,), (ALWAYS,), False))
        self.assertIs(spec.negated, False)

    def test_no_signals(self):
        spec = Spec([], [], 0, [], [])
        self.assertEqual((spec.signals, spec.assumptions, spec.guarantees), ((), (), ()))

    def test_bounds(self):
        spec = Spec(["a", "b", "c"], ["d", "e", "f"], -3, [], [])
        self.assertEqual(spec.signals, ("a", "b", "c", "d", "e", "f"))
        self.assertEqual(Spec([], [], 2, [], []).lead, 2)

    def test_faults(self):
        for inputs, outputs, lead in [(["a", "b", "c", "d"], [], 0), ([], ["a", "b", "c", "d"], 0), (["a", "a"], [], 0),
                                      (["a"], ["a"], 0), ([], ["b", "b"], 0), (["A"], [], 0), ([""], [], 0), ([], ["1a"], 0),
                                      ([], ["a b"], 0), (["true"], [], 0), ([], ["false"], 0), (["exists"], [], 0),
                                      ([], ["forall"], 0), (["a_b"], [], 0), (["a"], ["b"], 3), (["a"], ["b"], -4),
                                      (["a "], [], 0)]:
            with self.assertRaises(InvalidSpec, msg=str((inputs, outputs, lead))):
                Spec(inputs, outputs, lead, [], [])


class Duals(unittest.TestCase):
    def test_parts(self):
        for lead in range(-3, 3):
            spec = Spec(["a", "b"], ["x"], lead, [OFTEN], [ALWAYS])
            other = dual(spec)
            self.assertEqual(parts(other), (("x",), ("a", "b"), -1 - lead, (OFTEN,), (ALWAYS,), True))
            self.assertEqual(parts(dual(other)), parts(spec))
            self.assertEqual(parts(spec), (("a", "b"), ("x",), lead, (OFTEN,), (ALWAYS,), False))

    def test_the_dual_says_the_opposite(self):
        chance = random.Random(1)
        for _ in range(80):
            spec = random_spec(chance)
            p, q = 1 << len(spec.inputs), 1 << len(spec.outputs)
            for _ in range(8):
                lasso = random_lasso(chance, p * q)
                self.assertIs(satisfies(dual(spec), exchanged(lasso, p, q)), not satisfies(spec, lasso))


class Satisfying(unittest.TestCase):
    def test_assumptions_and_guarantees(self):
        spec = spec_of(["r"], ["g"], ["G F r"], ["G(r -> g)", "F !g"])
        for lasso, wanted in [(((), (0,)), True), (((1,), (0,)), True), (((), (3, 0)), True), (((), (3,)), False),
                              (((), (3, 1)), False), (((1,), (3, 0)), False), (((1,), (2,)), True)]:
            self.assertIs(satisfies(spec, lasso), wanted)
            negated = Spec(spec.inputs, spec.outputs, 0, spec.assumptions, spec.guarantees, negated=True)
            self.assertIs(satisfies(negated, lasso), not wanted)

    def test_several_of_both(self):
        names = ["a", "b", "c"], ["x", "y", "z"]
        spec = spec_of(names[0], names[1], ["a", "b", "c"], ["x", "y", "z"])
        for letter in range(64):
            wanted = letter & 7 != 7 or letter >> 3 == 7
            self.assertIs(satisfies(spec, ((letter,), (0,))), wanted)

    def test_nothing_to_keep(self):
        for negated in (False, True):
            self.assertIs(satisfies(Spec([], [], 0, [], [], negated=negated), ((), (0,))), not negated)
            self.assertIs(satisfies(spec_of(["r"], [], ["G r"], [], negated=negated), ((), (1,))), not negated)
            self.assertIs(satisfies(spec_of([], [], [], ["false"], negated=negated), ((), (0,))), negated)
            self.assertIs(satisfies(spec_of([], [], ["false"], ["false"], negated=negated), ((), (0,))), not negated)

    def test_hidden_signals(self):
        even = "exists h: h & G(h <-> X!h) & G(h -> g)"
        spec = spec_of(["r"], ["g"], ["forall h: F(h | r)"], [even])
        # The assumption is true exactly where r is true in some turn: then g is true at the even turns.
        for lasso, wanted in [(((), (0,)), True), (((), (1, 0)), False), (((), (3, 0)), True), (((2, 1), (2, 0)), True)]:
            self.assertIs(satisfies(spec, lasso), wanted)

    def test_against_the_words(self):
        chance = random.Random(2)
        for _ in range(120):
            spec = random_spec(chance)
            before = parts(spec)
            for _ in range(8):
                lasso = random_lasso(chance, 1 << len(spec.signals))
                self.assertIs(satisfies(spec, lasso), slow_satisfies(spec, lasso))
            self.assertEqual(parts(spec), before)

    def test_wrong_letters(self):
        for spec, letter in [(spec_of(["r"], ["g"], [], []), 4), (Spec([], [], 0, [], []), 1)]:
            for lasso in [((letter,), (0,)), ((), (0, letter))]:
                with self.assertRaises(InvalidLetter):
                    satisfies(spec, lasso)
            self.assertIs(satisfies(spec, ((letter - 1,), (0,))), True)


class Automata(unittest.TestCase):
    def check(self, spec, lassos):
        automaton = spec_automaton(spec)
        self.assertEqual(automaton.letters, 1 << len(spec.signals))
        for lasso in lassos:
            self.assertIs(accepts(automaton, lasso), slow_satisfies(spec, lasso))

    def test_on_many_words(self):
        chance = random.Random(3)
        for _ in range(150):
            spec = random_spec(chance, hidden=0.3)
            self.check(spec, [random_lasso(chance, 1 << len(spec.signals)) for _ in range(20)])

    def test_quantified_properties_on_both_sides(self):
        chance = random.Random(4)
        count = "exists h: !h & G(h <-> X !h) & G(h -> r)"
        other = "forall h: (G(h <-> X !h) -> F(h & g))"
        for assumptions, guarantees in [([count], []), ([], [count]), ([count, "G F g"], [other]), ([other], [count, "F g"]),
                                        ([other, count], ["G F r"]), ([], [count, other]), (["G F g"], [other])]:
            for negated in (False, True):
                spec = spec_of(["r"], ["g"], assumptions, guarantees, negated=negated)
                self.check(spec, [random_lasso(chance, 4, 3, 6) for _ in range(40)])

    def test_same_result_again(self):
        spec = random_spec(random.Random(5))
        first, second = spec_automaton(spec), spec_automaton(spec)
        self.assertEqual(vars(first), vars(second))
