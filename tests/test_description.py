import random
import unittest

from oracles import random_lasso, slow_accepts
from promiseplay.buchi import Automaton
from promiseplay.comparison import equivalent
from promiseplay.description import describe
from promiseplay.errors import Mismatch, TooLarge
from promiseplay.formulas import depth, operator_count, signal_names, temporal_count
from promiseplay.signals import is_name
from promiseplay.translation import translate
from promiseplay.truth import holds

NAMES = ["h0", "a", "h1", "b", "h", "c"]


def random_arguments(chance, states, letters):
    dense = chance.choice([0.15, 0.3, 0.5, 0.8])
    rows = [[[t for t in range(states) if chance.random() < dense] for _ in range(letters)] for _ in range(states)]
    return letters, [s for s in range(states) if chance.random() < 0.6], [
        s for s in range(states) if chance.random() < 0.5], rows


class Description(unittest.TestCase):
    def check(self, arguments, names, chance, words=8):
        before = list(names)
        prop = describe(Automaton(*arguments), names)
        self.assertEqual(names, before)
        word, hidden, formula = prop
        self.assertEqual(word, "exists")
        self.assertIs(type(hidden), tuple)
        self.assertIn(len(hidden), (1, 2))
        self.assertEqual(len(set(hidden) | set(names)), len(hidden) + len(names))
        self.assertTrue(all(is_name(name) for name in hidden))
        self.assertLessEqual(set(signal_names(formula)), set(hidden) | set(names))
        self.assertLessEqual(temporal_count(formula), 8)
        self.assertLessEqual(operator_count(formula, ("iff", "weak_until")), 6)
        self.assertLessEqual(depth(formula), 100)
        for _ in range(words):
            lasso = random_lasso(chance, arguments[0])
            self.assertEqual(holds(prop, names, lasso), slow_accepts(arguments[3], arguments[1], arguments[2], lasso))
        return prop

    def test_one_to_four_states(self):
        chance = random.Random(37)
        for states in (1, 2, 3, 4):
            for _ in range(60):
                names = NAMES[:chance.randint(0, 3)]
                self.check(random_arguments(chance, states, 1 << len(names)), names, chance)

    def test_six_signals(self):
        chance = random.Random(38)
        for states in (1, 2, 3, 4):
            self.check(random_arguments(chance, states, 64), NAMES, chance, 5)

    def test_translating_back(self):
        chance = random.Random(39)
        for _ in range(60):
            names = NAMES[:chance.randint(0, 2)]
            arguments = random_arguments(chance, chance.randint(1, 4), 1 << len(names))
            prop = describe(Automaton(*arguments), names)
            self.assertIsNone(equivalent(Automaton(*arguments), translate(prop, names)))

    def test_edges(self):
        chance = random.Random(40)
        everywhere = [[[0, 1], [0, 1]], [[0, 1], [0, 1]]]
        for arguments in [(2, [], [0, 1], everywhere), (2, [0, 1], [], everywhere), (2, [0, 1], [0, 1], everywhere),
                          (2, [0], [0], [[[], []]]), (2, [0], [0], [[[0], [0]]]), (2, [0], [1], [[[0, 1], [0]], [[], [1]]]),
                          (2, [0], [0], [[[1], []], [[2], [2]], [[3], []], [[], [0]]])]:
            self.check(arguments, ["a"], chance, 20)

    def test_errors(self):
        for letters, names in [(1, ["a"]), (3, ["a"]), (4, ["a"]), (2, []), (2, ["a", "b"])]:
            for states in (1, 5):
                with self.assertRaises(Mismatch):
                    describe(Automaton(letters, [], [], [[[]] * letters] * states), names)
        with self.assertRaises(TooLarge):
            describe(Automaton(2, [], [], [[[], []]] * 5), ["a"])
        describe(Automaton(2, [], [], [[[], []]] * 4), ["a"])
