import random
import unittest

from oracles import all_lassos, is_lasso, random_automaton, random_lasso, slow_accepts, slow_normal
from promiseplay.buchi import Automaton
from promiseplay.comparison import complement, equivalent, included
from promiseplay.errors import Mismatch
from promiseplay.operations import union


def slow(automaton, lasso):
    return slow_accepts(automaton.rows, automaton.initial, automaton.accepting, lasso)


def random_pair(chance, states):
    while True:
        first, second = random_automaton(chance, states), random_automaton(chance, states)
        if first[0] == second[0]:
            return Automaton(*first), Automaton(*second)


class Complement(unittest.TestCase):
    def test_random_automata(self):
        chance = random.Random(26)
        for _ in range(250):
            automaton = Automaton(*random_automaton(chance, 4, 2))
            other = complement(automaton)
            self.assertEqual(other.letters, automaton.letters)
            for _ in range(10):
                lasso = random_lasso(chance, automaton.letters)
                self.assertEqual(slow(other, lasso), not slow(automaton, lasso))

    def test_all_small_words(self):
        # Again and again a 1 behind a 0; and: only finitely many 1s.
        for arguments in [(2, [0], [1], [[[1], [0]], [[1], [0]]]), (2, [0], [1], [[[0, 1], [0]], [[1], []]])]:
            automaton = Automaton(*arguments)
            other = complement(automaton)
            for lasso in all_lassos(2, 2, 4):
                self.assertEqual(slow(other, lasso), not slow(automaton, lasso))

    def test_nothing_and_everything(self):
        nothing, everything = Automaton(3, [], [], [[[], [], []]]), Automaton(3, [0], [0], [[[0], [0], [0]]])
        for lasso in all_lassos(3, 1, 2):
            self.assertTrue(slow(complement(nothing), lasso))
            self.assertFalse(slow(complement(everything), lasso))

    def test_larger_ones(self):
        chance = random.Random(27)
        for _ in range(40):
            automaton = Automaton(*random_automaton(chance, 6, 3))
            other = complement(automaton)
            for _ in range(6):
                lasso = random_lasso(chance, automaton.letters)
                self.assertEqual(slow(other, lasso), not slow(automaton, lasso))


class Comparison(unittest.TestCase):
    def check_lasso(self, found):
        self.assertTrue(is_lasso(found))
        self.assertEqual(found, slow_normal(found))

    def test_included(self):
        chance = random.Random(28)
        answers = 0
        for _ in range(400):
            first, second = random_pair(chance, 4)
            found = included(first, second)
            if found is None:
                answers += 1
                for _ in range(15):
                    lasso = random_lasso(chance, first.letters)
                    self.assertTrue(slow(second, lasso) or not slow(first, lasso))
            else:
                self.check_lasso(found)
                self.assertTrue(slow(first, found))
                self.assertFalse(slow(second, found))
        self.assertGreater(answers, 40)
        self.assertLess(answers, 360)

    def test_equivalent(self):
        chance = random.Random(29)
        for _ in range(300):
            first, second = random_pair(chance, 3)
            found = equivalent(first, second)
            if found is None:
                for _ in range(15):
                    lasso = random_lasso(chance, first.letters)
                    self.assertEqual(slow(second, lasso), slow(first, lasso))
            else:
                self.check_lasso(found)
                self.assertNotEqual(slow(first, found), slow(second, found))

    def test_known_relations(self):
        chance = random.Random(30)
        for _ in range(150):
            first, second = random_pair(chance, 4)
            both = union(first, second)
            self.assertIsNone(included(first, both))
            self.assertIsNone(included(second, both))
            self.assertIsNone(equivalent(both, union(second, first)))
            self.assertIsNone(equivalent(first, first))
            other = complement(first)
            self.assertIsNotNone(equivalent(first, other))
            every = Automaton(first.letters, [0], [0], [[[0]] * first.letters])
            self.assertIsNone(equivalent(union(first, other), every))
            self.assertIsNone(equivalent(first, complement(other)))

    def test_only_one_word_differs(self):
        # All words but one: some letter is not that of the word 0 1 0 1 and so on.
        every = Automaton(2, [0], [0], [[[0], [0]]])
        but_one = Automaton(2, [0], [2], [[[1], [2]], [[2], [0]], [[2], [2]]])
        self.assertEqual(included(every, but_one), ((), (0, 1)))
        self.assertIsNone(included(but_one, every))
        self.assertEqual(equivalent(every, but_one), ((), (0, 1)))
        self.assertEqual(equivalent(but_one, every), ((), (0, 1)))

    def test_empty_ones(self):
        nothing, everything = Automaton(2, [], [], [[[], []]]), Automaton(2, [0], [0], [[[0], [0]]])
        self.assertIsNone(included(nothing, nothing))
        self.assertIsNone(included(nothing, everything))
        self.check_lasso(included(everything, nothing))
        self.check_lasso(equivalent(nothing, everything))

    def test_mismatch(self):
        one, two = Automaton(1, [0], [0], [[[0]]]), Automaton(2, [0], [0], [[[0], [0]]])
        for compare in (included, equivalent):
            for pair in ((one, two), (two, one)):
                with self.assertRaises(Mismatch):
                    compare(*pair)
